import PyProof.Rows.All
import Wide.All
import OpenK.AllK
import Wide.FinOn
import Lean
import PyProof.EqAt
import PyProof.EqKinds
import PyProof.TupleCall
import PySem.Challenge.RW_treetrim_k03_whole_steps_turned
set_option Elab.async false
set_option linter.all false
set_option maxRecDepth 100000
/-! THE HAND LAYER, for ints, bools, texts, own classes, LISTS and tuples (index, slices, in, append, pop ..), calls, loops. Paste it whole ahead of your own text; what your proof does not reach may be deleted. -/
namespace L2
open PySem PySem.Spec PyProof.Rows

/-- a key: an int or a str -/
noncomputable abbrev Key := Sum Int Str
noncomputable def keyIs : Key → Value → Bool
  | .inl k, v => Value.isInt k v
  | .inr x, v => Value.isStrOf x v
noncomputable def keyH (w : World) : Key → Int
  | .inl k => hashInt k
  | .inr x => hashStr w x
theorem keyIs_shape : ∀ {k : Key} {v : Value}, keyIs k v = true → (∃ i t, k = Sum.inl i ∧ v = Value.int i t) ∨ (∃ x t, k = Sum.inr x ∧ v = Value.str x t)
  | .inl i, v, h => by
    obtain ⟨t, e⟩ := Value.isInt_shape (k := i) (v := v) h
    exact .inl ⟨i, t, rfl, e⟩
  | .inr x, v, h => by
    obtain ⟨t, e⟩ := Value.isStrOf_shape (x := x) (v := v) h
    exact .inr ⟨x, t, rfl, e⟩
theorem keyIs_int (i : Int) (t : Tok) : keyIs (.inl i) (.int i t) = true := by simp [keyIs, Value.isInt]
theorem keyIs_str (x : Str) (t : Tok) : keyIs (.inr x) (.str x t) = true := by simp [keyIs, Value.isStrOf]
theorem key_ll (a b : Int) : decide ((Sum.inl a : Key) = Sum.inl b) = (a == b) := by
  by_cases e : a = b
  · subst e; simp
  · have h : ¬ (Sum.inl a : Key) = Sum.inl b := fun q => e (Sum.inl.inj q)
    rw [decide_eq_false h]
    exact (beq_eq_false_iff_ne.mpr e).symm
theorem key_rr (a b : Str) : decide ((Sum.inr a : Key) = Sum.inr b) = decide (a = b) := by
  by_cases e : a = b
  · subst e; simp
  · have h : ¬ (Sum.inr a : Key) = Sum.inr b := fun q => e (Sum.inr.inj q)
    rw [decide_eq_false h, decide_eq_false e]
theorem key_lr (a : Int) (b : Str) : decide ((Sum.inl a : Key) = Sum.inr b) = false := decide_eq_false (fun q => nomatch q)
theorem key_rl (a : Str) (b : Int) : decide ((Sum.inr a : Key) = Sum.inl b) = false := decide_eq_false (fun q => nomatch q)

noncomputable def mixKind (prog : Program) (w : World) : PySem.KeyKind prog w Key where
  is := keyIs
  hash := keyH w
  inj := fun v a b ha hb => by
    rcases keyIs_shape ha with ⟨i, t, rfl, rfl⟩ | ⟨x, t, rfl, rfl⟩
    · rcases keyIs_shape hb with ⟨j, u, rfl, e⟩ | ⟨y, u, rfl, e⟩
      · injection e with e1 _; rw [e1]
      · exact nomatch e
    · rcases keyIs_shape hb with ⟨j, u, rfl, e⟩ | ⟨y, u, rfl, e⟩
      · exact nomatch e
      · injection e with e1 _; rw [e1]
  byValue := fun k v h => by
    rcases keyIs_shape h with ⟨i, t, rfl, rfl⟩ | ⟨x, t, rfl, rfl⟩ <;> rfl
  pyHash := fun hv h => by
    rcases keyIs_shape hv with ⟨i, t, rfl, rfl⟩ | ⟨x, t, rfl, rfl⟩
    · exact wpAny_pyHash_int h
    · exact wpAny_pyHash_str h
  eqBool := fun hu hv h => by
    rcases keyIs_shape hu with ⟨i, t, rfl, rfl⟩ | ⟨x, t, rfl, rfl⟩
    · rcases keyIs_shape hv with ⟨j, u, rfl, rfl⟩ | ⟨y, u, rfl, rfl⟩
      · rw [key_ll] at h; exact wpAny_eqBool_int h
      · rw [key_lr] at h; exact SeqAt.EqAt.int_str i t y u _ _ _ _ h
    · rcases keyIs_shape hv with ⟨j, u, rfl, rfl⟩ | ⟨y, u, rfl, rfl⟩
      · rw [key_rl] at h; exact SeqAt.EqAt.str_int x t j u _ _ _ _ h
      · rw [key_rr] at h; exact wpAny_eqBool_str h
  «strs» := fun k x t v h => by
    rcases keyIs_shape h with ⟨i, u, rfl, e⟩ | ⟨y, u, rfl, e⟩
    · exact nomatch e
    · injection e with e1 _
      subst e1
      cases v <;> rfl

theorem mixKind_int (prog : Program) (w : World) (i : Int) (t : Tok) : (mixKind prog w).is (.inl i) (.int i t) = true := keyIs_int i t
theorem mixKind_str (prog : Program) (w : World) (x : Str) (t : Tok) : (mixKind prog w).is (.inr x) (.str x t) = true := keyIs_str x t
end L2

namespace L2
open PySem PySem.Spec PyProof.Rows

/-- a value, without the heap -/
inductive V where
  | non | bl (b : Bool) | int (i : Int) | str (x : Str) | byt (b : Array UInt8) | flt (b : UInt64) | ref (a : Addr) | ty (n : String)
  deriving DecidableEq

noncomputable def RelV : V → Value → Prop
  | .non, u => u = Value.none
  | .bl b, u => u = Value.bool b
  | .int i, u => ∃ t, u = Value.int i t
  | .str x, u => ∃ t, u = Value.str x t
  | .byt b, u => ∃ t, u = Value.bytes b t
  | .flt b, u => ∃ t, u = Value.float b t
  | .ref a, u => u = Value.ref a
  | .ty n, u => u = Value.type n

noncomputable abbrev Vals : List V → List Value → Prop := Paired RelV
theorem Vals.length {xs : List V} {us : List Value} (r : Vals xs us) : xs.length = us.length := Paired.length r
theorem Vals.get : ∀ {xs : List V} {us : List Value} {i : Nat} {x : V}, Vals xs us → xs[i]? = some x → ∃ u, us[i]? = some u ∧ RelV x u
  | _, _, _, _, .nil, e => by simp at e
  | _, _, 0, _, .cons r _, e => by simp at e; subst e; exact ⟨_, rfl, r⟩
  | _, _, i + 1, x, .cons _ t, e => by
    obtain ⟨u, h1, h2⟩ := Vals.get (i := i) (x := x) t (by simpa using e)
    exact ⟨u, by simpa using h1, h2⟩
theorem Vals.append : ∀ {xs ys : List V} {us ws : List Value}, Vals xs us → Vals ys ws → Vals (xs ++ ys) (us ++ ws)
  | _, _, _, _, .nil, s => s
  | _, _, _, _, .cons r t, s => .cons r (Vals.append t s)
theorem Vals.take : ∀ {xs : List V} {us : List Value} (n : Nat), Vals xs us → Vals (xs.take n) (us.take n)
  | _, _, 0, _ => .nil
  | _, _, _ + 1, .nil => .nil
  | _, _, n + 1, .cons r t => .cons r (Vals.take n t)
theorem Vals.drop : ∀ {xs : List V} {us : List Value} (n : Nat), Vals xs us → Vals (xs.drop n) (us.drop n)
  | _, _, 0, r => r
  | _, _, _ + 1, .nil => .nil
  | _, _, n + 1, .cons _ t => Vals.drop n t
noncomputable def RelO : Option V → Option Value → Prop
  | some v, some u => RelV v u
  | none, none => True
  | _, _ => False
noncomputable def KV {κ : Type} : List (κ × V) → List (κ × Value) → Prop := Paired fun (p : κ × V) (q : κ × Value) => p.1 = q.1 ∧ RelV p.2 q.2

/-- a key of a dict (00_mix): an int or a text -/
noncomputable def kV : Key → V
  | .inl i => .int i
  | .inr x => .str x

/-- what stands at a tracked address -/
inductive HO where
  /-- a list -/
  | lst (xs : List V)
  /-- a tuple (never changes) -/
  | tup (xs : List V)
  /-- a dict whose keys are ints and texts; one whose keys are tuples of ints and texts (the empty one is both) -/
  | dK (kvs : List (Key × V)) | dT (kvs : List (List Key × V))
  /-- a set of ints: its members, its size -/
  | set (S : Int → Bool) (n : Nat)
  /-- an instance of the class at C, its dict at dx, its attributes -/
  | ins (C dx : Addr) (fs : List (Str × V))
  /-- the dict of the instance at x -/
  | own (x : Addr)
  /-- the dict of an exception -/
  | xd (fs : List (Str × V))
  /-- a bound method, f of x -/
  | met (f x : Addr)
  /-- a range object lo, lo + 1, .. below hi -/
  | rng (lo hi : Int)
  /-- a thing that is known to the object (the script; a dict while a loop walks it): read, never written while it is so -/
  | frz (o : Obj) (u : HO)
  /-- a code object's table -/
  | tbl (ps : Array Value)
  /-- any other thing, by what is true of its one object (a def of one's own: SetO a S n := HO.ext fun h => ..) -/
  | ext (φ : Heap → Prop)

noncomputable abbrev Hp := Addr → Option HO
noncomputable def upd (H : Hp) (a : Addr) (o : HO) : Hp := fun b => if b = a then some o else H b
theorem upd_same {H : Hp} {a : Addr} {o : HO} : upd H a o a = some o := by unfold upd; rw [if_pos rfl]
theorem upd_ne {H : Hp} {a b : Addr} {o : HO} (h : b ≠ a) : upd H a o b = H b := by unfold upd; rw [if_neg h]
theorem ne_of_none {H : Hp} {a b : Addr} {o : HO} (h : H a = some o) (h' : H b = none) : a ≠ b := by
  intro e; subst e; rw [h] at h'; cases h'

section
variable (P : Program) (w : World)
noncomputable def ObjOk (H : Hp) (h : Heap) (a : Addr) : HO → Prop
  | .lst xs => xs.length ≤ sizeLine ∧ ∃ (its : List Value) (n : Nat), Vals xs its ∧ h.get? a = some { cls := .type "list", data := .seq its.toArray n }
  | .tup xs => xs.length ≤ sizeLine ∧ ∃ its : List Value, Vals xs its ∧ IsTup h a its.toArray
  | .dK kvs => kvs.length ≤ sizeLine ∧ (a == sysModules) = false ∧ ∃ vs, KV kvs vs ∧ h.DictOf (mixKind P w) a vs
  | .dT kvs => kvs.length ≤ sizeLine ∧ (a == sysModules) = false ∧ ∃ xs : List (List Key × Addr × Value),
      Paired (fun (p : List Key × V) (q : List Key × Addr × Value) => p.1 = q.1 ∧ H q.2.1 = some (.tup (p.1.map kV)) ∧ RelV p.2 q.2.2) kvs xs ∧
      ∃ o es ep, h.get? a = some o ∧ o.ExactDict ∧ o.data = .dict es ep ∧ es.toList = xs.map (entryOfKey (tupleKind (mixKind P w))) ∧ (xs.map (·.1)).Nodup
  | .set S n => h.SetOf (intKind P w) a S n
  | .ins C dx fs => H dx = some (.own a) ∧ fs.length ≤ 1000 ∧ dx ≠ a ∧ h.get? a = some (PySem.W.instObj C dx) ∧
      ∃ mA, h.Ns1 dx mA ∧ (∀ f, RelO (fs.lookup f) (mA f)) ∧ PySem.Within mA (fs.map (·.1))
  | .own _ => ∃ o, h.get? a = some o
  | .xd fs => ∃ mA, h.Ns1 a mA ∧ ∀ f, RelO (fs.lookup f) (mA f)
  | .rng lo hi => ∃ t u v, h.get? a = some { cls := .type "range", data := .fields #[.int lo t, .int hi u, .int 1 v] }
  | .frz o u => h.get? a = some o ∧ ObjOk H h a u
  | .tbl ps => h.get? a = some { cls := .none, data := .fields ps }
  | .met f x => h.get? a = some (PySem.W.methodObj (.ref f) (.ref x))
  | .ext φ => φ h ∧ (∃ o, h.get? a = some o) ∧ ∀ h1 h2 : Heap, φ h1 → (∀ o, h1.get? a = some o → h2.get? a = some o) → φ h2
/-- the abstract heap is held -/
noncomputable def HOk (H : Hp) (h : Heap) : Prop := ∀ a o, H a = some o → ObjOk P w H h a o
end

section
variable {P : Program} {w : World} {H H' : Hp} {h h' : Heap} {a : Addr} {o : HO}
theorem ObjOk.lt (x : ObjOk P w H h a o) : a < h.objs.size := by
  cases o with
  | lst xs => obtain ⟨_, _, _, _, e⟩ := x; exact Heap.lt_size e
  | tup xs => obtain ⟨_, _, _, p⟩ := x; exact p.lt
  | dK kvs => obtain ⟨_, _, _, _, o, _, _, e, _⟩ := x; exact Heap.lt_size e
  | dT kvs => obtain ⟨_, _, _, _, o, _, _, e, _⟩ := x; exact Heap.lt_size e
  | set S n => obtain ⟨o, _, _, _, e, _⟩ := x; exact Heap.lt_size e
  | ins C dx fs => obtain ⟨_, _, _, e, _⟩ := x; exact Heap.lt_size e
  | own y => obtain ⟨_, e⟩ := x; exact Heap.lt_size e
  | xd fs => obtain ⟨_, ⟨_, _, _, e, _⟩, _⟩ := x; exact Heap.lt_size e
  | rng lo hi => obtain ⟨_, _, _, e⟩ := x; exact Heap.lt_size e
  | frz ob u => obtain ⟨e, _⟩ := x; exact Heap.lt_size e
  | tbl ps => exact Heap.lt_size (show h.get? a = some _ from x)
  | met f y => exact Heap.lt_size (show h.get? a = some _ from x)
  | ext φ => obtain ⟨_, ⟨_, e⟩, _⟩ := x; exact Heap.lt_size e
theorem Paired.mapP {α β : Type} {F G : α → β → Prop} : ∀ {l₁ : List α} {l₂ : List β}, Paired F l₁ l₂ → (∀ a b, F a b → G a b) → Paired G l₁ l₂
  | _, _, .nil, _ => .nil
  | _, _, .cons r t, f => .cons (f _ _ r) (Paired.mapP t f)
/-- what an object's description leans on: its own object, its own dict, the tuples -/
theorem ObjOk.stay (x : ObjOk P w H h a o) (k : ∀ b u, (b = a ∨ H b = some (.own a)) → h.get? b = some u → h'.get? b = some u)
    (ho : ∀ b, H b = some (.own a) → H' b = some (.own a)) (ht : ∀ b xs, H b = some (.tup xs) → H' b = some (.tup xs)) : ObjOk P w H' h' a o := by
  induction o with
  | lst xs => obtain ⟨z, its, n, r, e⟩ := x; exact ⟨z, its, n, r, k _ _ (.inl rfl) e⟩
  | tup xs => obtain ⟨z, its, r, ob, e, c⟩ := x; exact ⟨z, its, r, ob, k _ _ (.inl rfl) e, c⟩
  | dK kvs => obtain ⟨z, y, vs, r, ob, es, ep, e, c⟩ := x; exact ⟨z, y, vs, r, ob, es, ep, k _ _ (.inl rfl) e, c⟩
  | dT kvs =>
    obtain ⟨z, y, xs, r, ob, es, ep, e, c⟩ := x
    exact ⟨z, y, xs, Paired.mapP r fun p q z => ⟨z.1, ht _ _ z.2.1, z.2.2⟩, ob, es, ep, k _ _ (.inl rfl) e, c⟩
  | set S n => obtain ⟨ob, es, ep, t, e, c⟩ := x; exact ⟨ob, es, ep, t, k _ _ (.inl rfl) e, c⟩
  | ins C dx fs =>
    obtain ⟨d, z, ne, e, mA, ⟨od, es, ep, e2, c⟩, r⟩ := x
    exact ⟨ho _ d, z, ne, k _ _ (.inl rfl) e, mA, ⟨od, es, ep, k _ _ (.inr d) e2, c⟩, r⟩
  | own y => obtain ⟨ob, e⟩ := x; exact ⟨ob, k _ _ (.inl rfl) e⟩
  | xd fs => obtain ⟨mA, ⟨od, es, ep, e, c⟩, r⟩ := x; exact ⟨mA, ⟨od, es, ep, k _ _ (.inl rfl) e, c⟩, r⟩
  | rng lo hi => obtain ⟨t, u, v, e⟩ := x; exact ⟨t, u, v, k _ _ (.inl rfl) e⟩
  | frz ob u ih => obtain ⟨e, q⟩ := x; exact ⟨k _ _ (.inl rfl) e, ih q⟩
  | tbl ps =>
    have e : h.get? a = some { cls := .none, data := .fields ps } := x
    show h'.get? a = some { cls := .none, data := .fields ps }
    exact k a _ (.inl rfl) e
  | met f y =>
    have e : h.get? a = some (PySem.W.methodObj (.ref f) (.ref y)) := x
    show h'.get? a = some (PySem.W.methodObj (.ref f) (.ref y))
    exact k a _ (.inl rfl) e
  | ext φ => obtain ⟨p, ⟨o, e⟩, st⟩ := x; exact ⟨st _ _ p fun o q => k _ _ (.inl rfl) q, ⟨o, k _ _ (.inl rfl) e⟩, st⟩
theorem HOk.lt (x : HOk P w H h) (e : H a = some o) : a < h.objs.size := (x a o e).lt
theorem HOk.fresh (x : HOk P w H h) (e : h.objs.size ≤ a) : H a = none := by
  cases q : H a with
  | none => rfl
  | some u => exact absurd (Nat.lt_of_lt_of_le (x.lt q) e) (Nat.lt_irrefl _)
/-- every object of the heap is kept -/
theorem HOk.kept (x : HOk P w H h) (k : ∀ b u, h.get? b = some u → h'.get? b = some u) : HOk P w H h' := fun a o e =>
  (x a o e).stay (fun b u _ q => k b u q) (fun _ q => q) fun _ _ q => q
/-- a new object is laid and tracked -/
theorem HOk.laid (x : HOk P w H h) (k : ∀ b u, h.get? b = some u → h'.get? b = some u) (hp : h.objs.size ≤ a) (new : ObjOk P w (upd H a o) h' a o) : HOk P w (upd H a o) h' := fun b u e => by
  have hn := x.fresh hp
  by_cases hb : b = a
  · subst hb; rw [upd_same] at e; cases e; exact new
  · rw [upd_ne hb] at e
    exact (x b u e).stay (fun c v _ q => k c v q) (fun c q => by rw [upd_ne (ne_of_none q hn)]; exact q) fun c xs q => by rw [upd_ne (ne_of_none q hn)]; exact q
end

/-- what may be read as u: it is u, or a known u -/
noncomputable def Rd (H : Hp) (a : Addr) (u : HO) : Prop := H a = some u ∨ ∃ o, H a = some (.frz o u)
theorem Rd.ok {P : Program} {w : World} {H : Hp} {h : Heap} {a : Addr} {u : HO} (r : Rd H a u) (x : HOk P w H h) : ObjOk P w H h a u := by
  rcases r with r | ⟨o, r⟩
  · exact x a u r
  · obtain ⟨_, q⟩ := x a _ r
    exact q
/-- what may be written -/
noncomputable def Mut : Option HO → Prop
  | some (.lst _) => True
  | some (.dK _) => True
  | some (.dT _) => True
  | some (.set _ _) => True
  | some (.ins _ _ _) => True
  | some (.ext _) => True
  | _ => False
section
variable {P : Program} {w : World} {H : Hp} {h h' : Heap} {x e : Addr} {o' : HO}
/-- the object at e is changed: x itself, or the dict of the instance x -/
theorem HOk.write (ok : HOk P w H h) (mu : Mut (H x)) (he : e = x ∨ H e = some (.own x)) (k : ∀ b u, b ≠ e → h.get? b = some u → h'.get? b = some u) (heo : ∃ u, h'.get? e = some u)
    (new : ObjOk P w (upd H x o') h' x o') : HOk P w (upd H x o') h' := fun b u q => by
  have nown : ∀ c y, H c = some (.own y) → c ≠ x := fun c y r z => by subst z; rw [r] at mu; exact mu
  have ntup : ∀ c xs, H c = some (.tup xs) → c ≠ x := fun c xs r z => by subst z; rw [r] at mu; exact mu
  by_cases hb : b = x
  · subst hb; rw [upd_same] at q; cases q; exact new
  · rw [upd_ne hb] at q
    by_cases hbe : b = e
    · have q' : H b = some (.own x) := by
        rcases he with z | z
        · exact absurd (hbe.trans z) hb
        · rw [hbe]; exact z
      rw [q] at q'; cases q'
      obtain ⟨v, hv⟩ := heo
      exact ⟨v, by rw [hbe]; exact hv⟩
    · refine (ok b u q).stay (fun c v hc r => k c v ?_ r) (fun c r => by rw [upd_ne (nown c b r)]; exact r) fun c xs r => by rw [upd_ne (ntup c xs r)]; exact r
      rcases hc with rfl | hc
      · exact hbe
      · rintro rfl
        rcases he with z | z
        · exact nown c b hc z
        · rw [hc] at z; cases z; exact hb rfl
end

/-! ### kept unless tracked; of the frames at fs (the callers') the slots may change (an exception that passes writes there); of the records at ex (iterators) nothing is said -/
structure Un (fs ex : List Addr) (H H' : Hp) (h h' : Heap) : Prop where
  keep : ∀ b o, h.get? b = some o → H b = none → b ∉ fs → b ∉ ex → h'.get? b = some o
  slot : ∀ b o, h.get? b = some o → H b = none → b ∈ fs → b ∉ ex → ∃ sl, h'.get? b = some { o with slots := sl }
  free : ∀ b o, h.get? b = some o → H b = none → b ∉ ex → H' b = none
  there : ∀ b o, h.get? b = some o → b ∉ ex → ∃ o', h'.get? b = some o'
  tups : ∀ b xs, H b = some (.tup xs) → H' b = some (.tup xs)
  frzs : ∀ b o u, H b = some (.frz o u) → H' b = some (.frz o u)
  tbls : ∀ b ps, H b = some (.tbl ps) → ∃ more, H' b = some (.tbl (ps ++ more))
section
variable {fs fs' ex ex' : List Addr} {H H1 H2 : Hp} {h h1 h2 h' : Heap} {a x e : Addr} {o : HO}
theorem Un.any (u : Un fs ex H H1 h h1) {b : Addr} {ob : Obj} (q : h.get? b = some ob) (n : H b = none) (hx : b ∉ ex) : ∃ sl, h1.get? b = some { ob with slots := sl } := by
  by_cases hb : b ∈ fs
  · exact u.slot b ob q n hb hx
  · exact ⟨ob.slots, u.keep b ob q n hb hx⟩
theorem Un.kept (k : ∀ b u, h.get? b = some u → h'.get? b = some u) : Un fs ex H H h h' :=
  ⟨fun b ob q _ _ _ => k b ob q, fun b ob q _ _ _ => ⟨ob.slots, k b ob q⟩, fun _ _ _ n _ => n, fun b ob q _ => ⟨ob, k b ob q⟩, fun _ _ q => q, fun _ _ _ q => q, fun _ ps q => ⟨#[], by rw [q]; simp⟩⟩
theorem Un.refl : Un fs ex H H h h := Un.kept fun _ _ q => q
theorem Un.laid (k : ∀ b u, h.get? b = some u → h'.get? b = some u) (hp : h.objs.size ≤ a) (hn : H a = none) : Un fs ex H (upd H a o) h h' where
  keep := fun b u q _ _ _ => k b u q
  slot := fun b u q _ _ _ => ⟨u.slots, k b u q⟩
  free := fun b u q n _ => by rw [upd_ne (Nat.ne_of_lt (Nat.lt_of_lt_of_le (Heap.lt_size q) hp))]; exact n
  there := fun b u q _ => ⟨u, k b u q⟩
  tups := fun b xs q => by rw [upd_ne (ne_of_none q hn)]; exact q
  frzs := fun b u xs q => by rw [upd_ne (ne_of_none q hn)]; exact q
  tbls := fun b ps q => ⟨#[], by rw [upd_ne (ne_of_none q hn), q]; simp⟩
theorem Un.write (mu : Mut (H x)) (he : e = x ∨ H e = some (.own x)) (k : ∀ b u, b ≠ e → h.get? b = some u → h'.get? b = some u) (heo : ∃ u, h'.get? e = some u) : Un fs ex H (upd H x o) h h' := by
  have hx : ∀ b, H b = none → b ≠ x := fun b n z => by subst z; rw [n] at mu; exact mu
  have hb : ∀ b, H b = none → b ≠ e := fun b n z => by
    subst z
    rcases he with r | r
    · exact hx b n r
    · rw [n] at r; cases r
  have hm : ∀ b u, H b = some u → ¬ Mut (some u) → b ≠ x := fun b u q nm z => by subst z; rw [q] at mu; exact nm mu
  refine ⟨fun b u q n _ _ => k b u (hb b n) q, fun b u q n _ _ => ⟨u.slots, k b u (hb b n) q⟩, fun b u q n _ => by rw [upd_ne (hx b n)]; exact n, fun b u q _ => ?_,
    fun b xs q => by rw [upd_ne (hm b _ q fun z => z)]; exact q, fun b u xs q => by rw [upd_ne (hm b _ q fun z => z)]; exact q, fun b ps q => ⟨#[], by rw [upd_ne (hm b _ q fun z => z), q]; simp⟩⟩
  by_cases hbe : b = e
  · subst hbe; exact heo
  · exact ⟨u, k b u hbe q⟩
end

/-! ### the heap without what is tracked -/
noncomputable def trk (h : Heap) (H : Hp) : List Addr := (List.range h.objs.size).filter fun a => (H a).isSome
noncomputable def hidT (h : Heap) (H : Hp) : Heap := PySem.W.hideAll h (trk h H)
theorem hidT_size (h : Heap) (H : Hp) : (hidT h H).objs.size = h.objs.size := PySem.W.hideAll_size _ _
theorem hidT_get {h : Heap} {H : Hp} {b : Addr} {o : Obj} (e : h.get? b = some o) (n : H b = none) : (hidT h H).get? b = some o :=
  PySem.W.hideAll_get _ e fun hm => by
    have q : (H b).isSome = true := (List.mem_filter.mp hm).2
    rw [n] at q; simp at q
theorem of_hidT {h : Heap} {H : Hp} {b : Addr} {o : Obj} (e : (hidT h H).get? b = some o) : h.get? b = some o ∧ H b = none := by
  have e' : h.get? b = some o := PySem.W.of_hideAll (trk h H) e
  refine ⟨e', ?_⟩
  cases q : H b with
  | none => rfl
  | some x =>
    have hm : b ∈ trk h H := List.mem_filter.mpr ⟨List.mem_range.mpr (Heap.lt_size e'), by simp [q]⟩
    have z : (hidT h H).get? b = none := PySem.W.hideAll_none (trk h H) hm
    rw [z] at e; cases e

/-! ### OpenK's ledger, filled with every new object but one -/
noncomputable def allNews (g h : Heap) (L : Addr) : List (Addr × Obj) := (List.range h.objs.size).filterMap fun a => if a = L ∨ (g.get? a).isSome = true then none else (h.get? a).map fun o => (a, o)
theorem mem_allNews {g h : Heap} {L a : Addr} {o : Obj} (h1 : a ≠ L) (h2 : g.get? a = none) (h3 : h.get? a = some o) : (a, o) ∈ allNews g h L :=
  List.mem_filterMap.mpr ⟨a, List.mem_range.mpr (Heap.lt_size h3), by simp [h1, h2, h3]⟩
theorem of_mem_allNews {g h : Heap} {L : Addr} {p : Addr × Obj} (hp : p ∈ allNews g h L) : p.1 ≠ L ∧ g.get? p.1 = none ∧ h.get? p.1 = some p.2 := by
  obtain ⟨b, _, e⟩ := List.mem_filterMap.mp hp
  split at e
  · cases e
  · rename_i hn
    cases q : h.get? b with
    | none => rw [q] at e; simp at e
    | some u =>
      rw [q] at e
      simp only [Option.map_some, Option.some.injEq] at e
      subst e
      refine ⟨fun z => hn (.inl z), ?_, q⟩
      show g.get? b = none
      cases r : g.get? b with
      | none => rfl
      | some v => exact (hn (.inr (by simp [r]))).elim
noncomputable def rest (g h : Heap) (L d : Addr) : List (Addr × Obj) := (allNews g h L).filter fun p => decide (p.1 ≠ d)
theorem news_all {g h : Heap} {L : Addr} : News g L h (allNews g h L) := fun p hp => let ⟨a, b, c⟩ := of_mem_allNews hp; ⟨c, a, b⟩
end L2

namespace L2
open PySem PySem.Spec PyProof.Rows

/-- the module's facts, over the base: the heap at the law's entry without what is tracked there -/
structure Mod (K : PySem.W.Frag) (mg : Str → Option Value) (base : Heap) : Prop where
  kin : K.In base
  glob : base.Ns mainGlobals mg
  blt : ∃ mb, base.Ns builtinsNs mb ∧ ∀ x : Str, x ≠ "__name__" → mb x = bootBuiltins x
  nolimit : base.NoLimit

/-- the context: a def's body (or a comprehension's block) running. base: fixed through the whole law; s₀, H₀: the entry; outer: the frames whose slots others may change (a def's callers); stack: all frames that run;
   ex: iterators that were made ahead of the entry and are walked here (a comprehension's); fn: the names whose cells were made at the entry (a def: all; a comprehension's block: its own); calm: not within an except suite; pn: pins that every state bears; xe: what is wanted of an exception that leaves the code -/
structure Cx where
  prog : Program
  w : World
  K : PySem.W.Frag
  mg : Str → Option Value
  base : Heap
  A : Around
  N : List Str
  s₀ : Shared
  H₀ : Hp
  env : Env
  outer : List Env
  stack : List Env
  ex : List Addr
  fn : Str → Bool
  calm : Bool
  pn : List (Addr × Obj)
  xe : Value → Shared → Prop
/-- the callers' frames -/
noncomputable def frs (l : List Env) : List Addr := l.filterMap (·.frame)
noncomputable abbrev Cx.fs (X : Cx) : List Addr := frs X.outer

noncomputable def Vis (sc : Scope) (x : Str) : Prop := sc.names.lookup x = some .local ∨ sc.names.lookup x = some .cell ∨ sc.names.lookup x = some .free
noncomputable def Loc (sc : Scope) (x : Str) : Prop := sc.names.lookup x = some .local ∨ sc.names.lookup x = some .cell
noncomputable def Look (env : Env) (h : Heap) (m : Str → Option Value) (x : Str) (u : Value) : Prop :=
  (env.kindOf x = some .local ∧ m x = some u) ∨ ((env.kindOf x = some .cell ∨ env.kindOf x = some .free) ∧ ∃ c, env.cells.lookup x = some c ∧ h.IsCell c (some u))

structure Cx.Ok (X : Cx) : Prop where
  mod : Mod X.K X.mg X.base
  kind : X.env.scope.kind = .function
  glob : X.env.globals = mainGlobals
  blt : X.env.builtins = builtinsNs
  above : X.s₀.heap.objs.size ≤ X.env.locals
  inj : ∀ x y c, X.env.cells.lookup x = some c → X.env.cells.lookup y = some c → x = y
  has : ∀ x, (X.env.kindOf x = some .cell ∨ X.env.kindOf x = some .free) → ∃ c, X.env.cells.lookup x = some c
  cab : ∀ x c, X.fn x = true → X.env.cells.lookup x = some c → X.s₀.heap.objs.size ≤ c
  hd : X.calm = true → X.A.handled = none
  frames : X.A.frames = some X.stack
  stk : X.stack = X.outer ∨ (X.stack = X.env :: X.outer ∧ X.env.frame = some X.env.locals)
  exf : ∀ b ∈ X.ex, b ≠ X.env.locals ∧ ∀ x c, X.env.cells.lookup x = some c → c ≠ b
  bs : ∀ b o, X.base.get? b = some o → X.s₀.heap.get? b = some o ∧ X.H₀ b = none
  bsz : X.base.objs.size ≤ X.s₀.heap.objs.size
  noex : ∀ b o, X.base.get? b = some o → b ∉ X.ex
  exfs : ∀ b ∈ X.ex, b ∉ X.fs
  funs : X.s₀.heap.FunFrames X.base X.outer
  frf : ∀ b ∈ X.fs, X.H₀ b = none

structure Inv (X : Cx) (pins : List (Addr × Obj)) (σ : List (Option V)) (H : Hp) (s : Shared) : Prop where
  ok : X.Ok
  os : s.os = X.s₀.os
  bare : AllBare s.gens
  base : Un X.fs X.ex X.H₀ H X.s₀.heap s.heap
  loc : ∃ m, s.heap.Ns X.env.locals m ∧ ∀ (i : Nat) (x : Str) (v : V), X.N[i]? = some x → σ[i]? = some (some v) → Vis X.env.scope x → ∃ u, RelV v u ∧ Look X.env s.heap m x u
  cell : ∀ x c, X.env.cells.lookup x = some c → ∃ v, s.heap.IsCell c v
  free : H X.env.locals = none
  freeC : ∀ x c, X.env.cells.lookup x = some c → H c = none
  pin : ∀ p ∈ X.pn ++ pins, s.heap.get? p.1 = some p.2 ∧ H p.1 = none ∧ p.1 ≠ X.env.locals ∧ p.1 ∉ X.fs ∧ ∀ v, p.2.data ≠ .cell v
  hok : HOk X.prog X.w H s.heap
  len : σ.length = X.N.length

section
variable {X : Cx} {pins : List (Addr × Obj)} {σ : List (Option V)} {H H' : Hp} {s : Shared} {h' : Heap}

theorem Cx.Ok.nofr (ok : X.Ok) {b : Addr} {o : Obj} (e : X.base.get? b = some o) : b ∉ X.fs := fun hb => by
  have := (ok.funs.mem hb).1
  rw [e] at this; cases this
theorem Inv.bs (I : Inv X pins σ H s) : ∀ b o, X.base.get? b = some o → s.heap.get? b = some o ∧ H b = none := fun b o e =>
  ⟨I.base.keep b o (I.ok.bs b o e).1 (I.ok.bs b o e).2 (I.ok.nofr e) (I.ok.noex b o e), I.base.free b o (I.ok.bs b o e).1 (I.ok.bs b o e).2 (I.ok.noex b o e)⟩
theorem Inv.bk (I : Inv X pins σ H s) : ∀ b o, X.base.get? b = some o → s.heap.get? b = some o := fun b o e => (I.bs b o e).1
theorem Inv.mod (I : Inv X pins σ H s) : Mod X.K X.mg X.base := I.ok.mod
theorem Inv.kIn (I : Inv X pins σ H s) : X.K.In s.heap := I.ok.mod.kin.keeps I.bk
/-- the frame over the base: for OpenK's rules (K.In X.base is I.mod.kin) -/
theorem Inv.fr (I : Inv X pins σ H s) : ∃ m, Fr X.base X.env.locals s.heap m :=
  let ⟨m, hn, _⟩ := I.loc
  ⟨m, hn, I.bk, Nat.le_trans I.ok.bsz I.ok.above⟩
theorem Inv.lt (I : Inv X pins σ H s) : X.env.locals < s.heap.objs.size := let ⟨_, hn, _⟩ := I.loc; hn.lt
theorem Inv.sz (I : Inv X pins σ H s) : X.s₀.heap.objs.size ≤ s.heap.objs.size := Nat.le_trans I.ok.above (Nat.le_of_lt I.lt)
theorem Inv.nofs (I : Inv X pins σ H s) {a : Addr} (h : s.heap.objs.size ≤ a) : a ∉ X.fs := fun hb => by
  obtain ⟨_, o, ho, _⟩ := I.ok.funs.mem hb
  exact absurd (Nat.lt_of_lt_of_le (Heap.lt_size ho) (Nat.le_trans I.sz h)) (Nat.lt_irrefl _)
theorem Inv.cne (I : Inv X pins σ H s) : ∀ x c, X.env.cells.lookup x = some c → c ≠ X.env.locals := fun x c e z => by
  obtain ⟨v, o, ho, hd⟩ := I.cell x c e
  obtain ⟨m, ⟨o', es, ep, ho', hd', _⟩, _⟩ := I.loc
  rw [z, ho'] at ho; cases ho; rw [hd'] at hd; cases hd
theorem Inv.funs (I : Inv X pins σ H s) : s.heap.FunFrames X.base X.outer := by
  have all : ∀ (l : List Env), (∀ b ∈ frs l, b ∈ X.fs) → X.s₀.heap.FunFrames X.base l → s.heap.FunFrames X.base l := by
    intro l
    induction l with
    | nil => intro _ _; trivial
    | cons env r ih =>
      intro hs hl
      obtain ⟨hk, ⟨L, o, hf, hn, ho, hd⟩, hr⟩ := hl
      have hL : L ∈ X.fs := hs L (by unfold frs; rw [List.filterMap_cons, hf]; exact List.mem_cons_self)
      obtain ⟨sl, e⟩ := I.base.slot L o ho (I.ok.frf L hL) hL fun z => I.ok.exfs L z hL
      exact ⟨hk, ⟨L, _, hf, hn, e, hd⟩, ih (fun b hb => hs b (by unfold frs; rw [List.filterMap_cons, hf]; exact List.mem_cons_of_mem _ hb)) hr⟩
  exact all X.outer (fun _ hb => hb) I.ok.funs

/-- the frames that run, for a call -/
theorem Inv.stack (I : Inv X pins σ H s) : s.heap.FunFrames X.base X.stack := by
  rcases I.ok.stk with e | ⟨e, hf⟩
  · rw [e]; exact I.funs
  · rw [e]
    obtain ⟨m, hn, _⟩ := I.loc
    refine .cons (by rw [I.ok.kind]; decide) hf hn ?_ I.funs
    exact Heap.get?_none_of_le (Nat.le_trans I.ok.bsz I.ok.above)
theorem Inv.stkSub (I : Inv X pins σ H s) : ∀ b ∈ frs X.stack, b ∈ X.env.locals :: X.fs := fun b hb => by
  rcases I.ok.stk with e | ⟨e, hf⟩
  · rw [e] at hb; exact List.mem_cons_of_mem _ hb
  · rw [e] at hb
    unfold frs at hb
    rw [List.filterMap_cons, hf] at hb
    exact hb
theorem Inv.stkFree (I : Inv X pins σ H s) : ∀ b ∈ frs X.stack, H b = none := fun b hb => by
  rcases List.mem_cons.mp (I.stkSub b hb) with e | hb
  · rw [e]; exact I.free
  · obtain ⟨_, o, ho, _⟩ := I.ok.funs.mem hb
    exact I.base.free b o ho (I.ok.frf b hb) fun z => I.ok.exfs b z hb

/-- THE STEP: the untracked objects but the frame and the records at ch are kept (the callers' frames up to slots), the frame's map is kept, the new abstract heap is held -/
theorem Inv.step {g' : Array GenState} {t' : Nat} {d' : Drawn} {ch : List Addr} (I : Inv X pins σ H s)
    (hch : ∀ b ∈ ch, (b ∈ X.ex ∨ X.s₀.heap.objs.size ≤ b) ∧ b ≠ X.env.locals ∧ (∀ x c, X.env.cells.lookup x = some c → c ≠ b) ∧ ∀ p ∈ X.pn ++ pins, p.1 ≠ b)
    (keep : ∀ b o, b ≠ X.env.locals → b ∉ X.fs → b ∉ ch → s.heap.get? b = some o → H b = none → h'.get? b = some o)
    (slot : ∀ b o, b ≠ X.env.locals → b ∈ X.fs → b ∉ ch → s.heap.get? b = some o → H b = none → ∃ sl, h'.get? b = some { o with slots := sl }) (free : ∀ b o, b ∉ ch → s.heap.get? b = some o → H b = none → H' b = none)
    (there : ∀ b o, b ∉ ch → s.heap.get? b = some o → ∃ o', h'.get? b = some o')
    (tups : ∀ b xs, H b = some (.tup xs) → H' b = some (.tup xs)) (frzs : ∀ b o u, H b = some (.frz o u) → H' b = some (.frz o u)) (tbls : ∀ b ps, H b = some (.tbl ps) → ∃ more, H' b = some (.tbl (ps ++ more)))
    (ns : ∀ m, s.heap.Ns X.env.locals m → h'.Ns X.env.locals m) (hok : HOk X.prog X.w H' h') (hg : AllBare g') :
    Inv X pins σ H' { s with heap := h', gens := g', drawn := d', toks := t' } := by
  have neL : ∀ b o, X.s₀.heap.get? b = some o → b ≠ X.env.locals := fun b o e => Nat.ne_of_lt (Nat.lt_of_lt_of_le (Heap.lt_size e) I.ok.above)
  have neC : ∀ b o, X.s₀.heap.get? b = some o → b ∉ X.ex → b ∉ ch := fun b o e hx hb => by
    rcases (hch b hb).1 with z | z
    · exact hx z
    · exact absurd (Nat.lt_of_lt_of_le (Heap.lt_size e) z) (Nat.lt_irrefl _)
  have cellK : ∀ x c, X.env.cells.lookup x = some c → ∀ v, s.heap.IsCell c v → h'.IsCell c v := fun x c e v ⟨o, ho, hd⟩ => by
    have nch : c ∉ ch := fun z => (hch c z).2.2.1 x c e rfl
    by_cases hc : c ∈ X.fs
    · obtain ⟨sl, q⟩ := slot c o (I.cne x c e) hc nch ho (I.freeC x c e)
      exact ⟨_, q, hd⟩
    · exact ⟨o, keep c o (I.cne x c e) hc nch ho (I.freeC x c e), hd⟩
  refine ⟨I.ok, I.os, hg, ⟨fun b o e n hb hx => ?_, fun b o e n hb hx => ?_, fun b o e n hx => ?_, fun b o e hx => ?_, fun b xs e => tups b xs (I.base.tups b xs e), fun b o xs e => frzs b o xs (I.base.frzs b o xs e), fun b ps e => ?_⟩, ?_, fun x c e => ?_, ?_, fun x c e => ?_, fun p hp => ?_, hok, I.len⟩
  · exact keep b o (neL b o e) hb (neC b o e hx) (I.base.keep b o e n hb hx) (I.base.free b o e n hx)
  · obtain ⟨sl, e1⟩ := I.base.slot b o e n hb hx
    obtain ⟨sl', e2⟩ := slot b _ (neL b o e) hb (neC b o e hx) e1 (I.base.free b o e n hx)
    exact ⟨sl', e2⟩
  · obtain ⟨o', e1⟩ := I.base.there b o e hx
    exact free b o' (neC b o e hx) e1 (I.base.free b o e n hx)
  · obtain ⟨o', e1⟩ := I.base.there b o e hx
    exact there b o' (neC b o e hx) e1
  · obtain ⟨m1, e1⟩ := I.base.tbls b ps e
    obtain ⟨m2, e2⟩ := tbls b _ e1
    exact ⟨m1 ++ m2, by rw [e2, Array.append_assoc]⟩
  · obtain ⟨m, hn, hl⟩ := I.loc
    refine ⟨m, ns m hn, fun i x v e1 e2 e3 => ?_⟩
    obtain ⟨u, r, l⟩ := hl i x v e1 e2 e3
    refine ⟨u, r, ?_⟩
    rcases l with l | ⟨k, c, e, z⟩
    · exact .inl l
    · exact .inr ⟨k, c, e, cellK x c e _ z⟩
  · obtain ⟨v, z⟩ := I.cell x c e
    exact ⟨v, cellK x c e v z⟩
  · obtain ⟨m, ⟨o, _, _, ho, _⟩, _⟩ := I.loc
    exact free _ o (fun z => (hch _ z).2.1 rfl) ho I.free
  · obtain ⟨v, o, ho, hd⟩ := I.cell x c e
    exact free c o (fun z => (hch c z).2.2.1 x c e rfl) ho (I.freeC x c e)
  · obtain ⟨e, n, ne, nf, d⟩ := I.pin p hp
    have nch : p.1 ∉ ch := fun z => (hch p.1 z).2.2.2 p hp rfl
    exact ⟨keep p.1 p.2 ne nf nch e n, free p.1 p.2 nch e n, ne, nf, d⟩
/-- .. where the frame's own object is kept too -/
theorem Inv.un {t' : Nat} (I : Inv X pins σ H s) (u : Un X.fs [] H H' s.heap h') (hok : HOk X.prog X.w H' h') : Inv X pins σ H' { s with heap := h', toks := t' } := by
  obtain ⟨m, ⟨o, es, ep, ho, r⟩, _⟩ := id I.loc
  obtain ⟨sl, hL⟩ := u.any ho I.free (by simp)
  exact I.step (g' := s.gens) (d' := s.drawn) (ch := []) (fun _ z => nomatch z) (fun b o _ hb _ e n => u.keep b o e n hb (by simp)) (fun b o _ hb _ e n => u.slot b o e n hb (by simp)) (fun b o _ e n => u.free b o e n (by simp)) (fun b o _ e => u.there b o e (by simp)) u.tups u.frzs u.tbls (fun m' hm => by
    obtain ⟨o', es', ep', ho', r'⟩ := hm
    rw [ho] at ho'; cases ho'
    exact ⟨_, es', ep', hL, r'⟩) hok I.bare
/-- behind a call (or a comprehension's block): the slots of this frame may have changed too, the records at ch may have turned -/
theorem Inv.call {g' : Array GenState} {t' : Nat} {d' : Drawn} {ch : List Addr} (I : Inv X pins σ H s) (u : Un (frs X.stack) ch H H' s.heap h') (hok : HOk X.prog X.w H' h') (hg : AllBare g')
    (hch : ∀ b ∈ ch, (b ∈ X.ex ∨ X.s₀.heap.objs.size ≤ b) ∧ b ≠ X.env.locals ∧ (∀ x c, X.env.cells.lookup x = some c → c ≠ b) ∧ ∀ p ∈ X.pn ++ pins, p.1 ≠ b) :
    Inv X pins σ H' { s with heap := h', gens := g', drawn := d', toks := t' } := by
  obtain ⟨m, ⟨o, es, ep, ho, r⟩, _⟩ := id I.loc
  obtain ⟨sl, hL⟩ := u.any ho I.free fun z => (hch _ z).2.1 rfl
  exact I.step (ch := ch) hch (fun b o hL hb hc e n => u.keep b o e n (fun z => (List.mem_cons.mp (I.stkSub b z)).elim hL hb) hc) (fun b o _ _ hc e n => u.any e n hc) (fun b o hc e n => u.free b o e n hc) (fun b o hc e => u.there b o e hc) u.tups u.frzs u.tbls (fun m' hm => by
    obtain ⟨o', es', ep', ho', r'⟩ := hm
    rw [ho] at ho'; cases ho'
    exact ⟨_, es', ep', hL, r'⟩) hok hg
/-- an untracked record of ours (an iterator) has turned -/
theorem Inv.turned {t' : Nat} {it : Addr} (I : Inv X pins σ H s) (k : ∀ b o, b ≠ it → s.heap.get? b = some o → h'.get? b = some o) (hn : H it = none) (hL : it ≠ X.env.locals)
    (h1 : it ∈ X.ex ∨ X.s₀.heap.objs.size ≤ it) (h2 : ∀ x c, X.env.cells.lookup x = some c → c ≠ it) (h3 : ∀ p ∈ X.pn ++ pins, p.1 ≠ it) : Inv X pins σ H { s with heap := h', toks := t' } := by
  have nit : ∀ b u, H b = some u → b ≠ it := fun b u e z => by rw [z, hn] at e; cases e
  refine I.step (g' := s.gens) (d' := s.drawn) (ch := [it]) (fun b hb => ?_) (fun b o _ _ hc e _ => k b o (fun z => hc (by simp [z])) e) (fun b o _ _ hc e _ => ⟨o.slots, k b o (fun z => hc (by simp [z])) e⟩) (fun _ _ _ _ n => n)
    (fun b o hc e => ⟨o, k b o (fun z => hc (by simp [z])) e⟩) (fun _ _ e => e) (fun _ _ _ e => e) (fun b ps e => ⟨#[], by rw [e]; simp⟩) (fun m hm => ?_) (fun b u e => ?_) I.bare
  · have e : b = it := by simpa using hb
    subst e
    exact ⟨h1, hL, h2, h3⟩
  · obtain ⟨o, es, ep, ho, r⟩ := hm
    exact ⟨o, es, ep, k _ o (Ne.symm hL) ho, r⟩
  · refine (I.hok b u e).stay (fun c v hc q => k c v ?_ q) (fun _ q => q) fun _ _ q => q
    rcases hc with z | z
    · rw [z]; exact nit b u e
    · exact nit c _ z
theorem Inv.tok (I : Inv X pins σ H s) (t : Nat) : Inv X pins σ H { s with toks := t } := I.un (h' := s.heap) (t' := t) Un.refl I.hok
/-- all objects kept -/
theorem Inv.kept {t' : Nat} (I : Inv X pins σ H s) (k : ∀ b u, s.heap.get? b = some u → h'.get? b = some u) : Inv X pins σ H { s with heap := h', toks := t' } := I.un (Un.kept k) (I.hok.kept k)
/-- a new object laid and tracked -/
theorem Inv.laid {a : Addr} {o : HO} {t' : Nat} (I : Inv X pins σ H s) (k : ∀ b u, s.heap.get? b = some u → h'.get? b = some u) (hp : s.heap.objs.size ≤ a) (new : ObjOk X.prog X.w (upd H a o) h' a o) :
    Inv X pins σ (upd H a o) { s with heap := h', toks := t' } := I.un (Un.laid k hp (I.hok.fresh hp)) (I.hok.laid k hp new)
/-- an object written -/
theorem Inv.write {x e : Addr} {o : HO} {t' : Nat} (I : Inv X pins σ H s) (mu : Mut (H x)) (he : e = x ∨ H e = some (.own x)) (k : ∀ b u, b ≠ e → s.heap.get? b = some u → h'.get? b = some u) (heo : ∃ u, h'.get? e = some u)
    (new : ObjOk X.prog X.w (upd H x o) h' x o) : Inv X pins σ (upd H x o) { s with heap := h', toks := t' } := I.un (Un.write mu he k heo) (I.hok.write mu he k heo new)
/-- forgetting slots, pins -/
theorem Inv.weak {σ' : List (Option V)} (I : Inv X pins σ H s) (hl : σ'.length = σ.length) (w : ∀ (i : Nat) v, σ'[i]? = some (some v) → σ[i]? = some (some v)) : Inv X pins σ' H s :=
  ⟨I.ok, I.os, I.bare, I.base, let ⟨m, hn, hl'⟩ := I.loc; ⟨m, hn, fun i x v e1 e2 e3 => hl' i x v e1 (w i v e2) e3⟩, I.cell, I.free, I.freeC, I.pin, I.hok, hl.trans I.len⟩
theorem Inv.pins_of {pins' : List (Addr × Obj)} (I : Inv X pins σ H s) (h : ∀ p ∈ pins', s.heap.get? p.1 = some p.2 ∧ H p.1 = none ∧ p.1 ≠ X.env.locals ∧ p.1 ∉ X.fs ∧ ∀ v, p.2.data ≠ .cell v) : Inv X pins' σ H s :=
  ⟨I.ok, I.os, I.bare, I.base, I.loc, I.cell, I.free, I.freeC, fun p hp => (List.mem_append.mp hp).elim (fun z => I.pin p (List.mem_append_left _ z)) (h p), I.hok, I.len⟩

theorem nodup_ix {N : List Str} (hN : N.Nodup) {i j : Nat} {x : Str} (a : N[i]? = some x) (b : N[j]? = some x) : i = j := by
  obtain ⟨h1, e1⟩ := List.getElem?_eq_some_iff.mp a
  obtain ⟨h2, e2⟩ := List.getElem?_eq_some_iff.mp b
  exact (List.getElem_inj hN).mp (e1.trans e2.symm)

/-- a name is stored; what changed -/
theorem store_ok2 {M : Model} {A : Around} {E : Value → Shared → Prop} {i : Nat} {x : Str} {v : V} {u : Value} {Q : Unit → Shared → Prop} (I : Inv X pins σ H s) (hN : X.N.Nodup) (hi : X.N[i]? = some x) (hx : Loc X.env.scope x) (r : RelV v u)
    (h : ∀ s', Inv X pins (σ.set i (some v)) H s' → (∃ a, Heap.SameBut a s.heap s'.heap ∧ (a = X.env.locals ∨ X.env.cells.lookup x = some a)) → Q () s') (hf : X.fn x = true ∨ X.env.scope.names.lookup x = some .local := by first | exact .inl rfl | exact .inr rfl | assumption) : wpAny M A (storeName X.env x u) Q E s := by
  obtain ⟨m, hn, hl⟩ := id I.loc
  have hcls : (X.env.scope.kind == .class || (X.env.scope.kind == .module && X.env.locals != X.env.globals)) = false := by rw [I.ok.kind]; rfl
  have hiσ : i < σ.length := by rw [I.len]; exact (List.getElem?_eq_some_iff.mp hi).1
  have cne := I.cne
  have tracked : ∀ {a : Addr} {h' : Heap}, (∃ o, s.heap.get? a = some o ∧ H a = none) → Heap.SameBut a s.heap h' → HOk X.prog X.w H h' := fun {a h'} ha hs b ob e => by
    obtain ⟨_, _, hfree⟩ := ha
    refine (I.hok b ob e).stay (fun c w' hc q => (hs.2 c ?_).trans q) (fun _ q => q) fun _ _ q => q
    rintro rfl
    rcases hc with rfl | hc
    · rw [hfree] at e; cases e
    · rw [hfree] at hc; cases hc
  rcases hx with hk | hk
  · refine wpAny_storeName_local hk hn (fun h' hn' hs => ?_) hcls
    obtain ⟨oL, _, _, hoL, _⟩ := id hn
    refine h _ ⟨I.ok, I.os, I.bare, ⟨fun b o e n hb hx => ?_, fun b o e n hb hx => ?_, I.base.free, fun b o e hx => ?_, I.base.tups, I.base.frzs, I.base.tbls⟩, ⟨_, hn', fun j y v' e1 e2 e3 => ?_⟩, fun y c e => ?_, I.free, I.freeC, fun p hp => ?_, tracked ⟨oL, hoL, I.free⟩ hs, by simpa using I.len⟩ ⟨_, hs, .inl rfl⟩
    · exact (hs.2 b (Nat.ne_of_lt (Nat.lt_of_lt_of_le (Heap.lt_size e) I.ok.above))).trans (I.base.keep b o e n hb hx)
    · obtain ⟨sl, e1⟩ := I.base.slot b o e n hb hx
      exact ⟨sl, (hs.2 b (Nat.ne_of_lt (Nat.lt_of_lt_of_le (Heap.lt_size e) I.ok.above))).trans e1⟩
    · obtain ⟨o', e1⟩ := I.base.there b o e hx
      exact ⟨o', (hs.2 b (Nat.ne_of_lt (Nat.lt_of_lt_of_le (Heap.lt_size e) I.ok.above))).trans e1⟩
    · by_cases hj : j = i
      · subst hj
        rw [hi] at e1; cases e1
        rw [List.getElem?_set_self hiσ] at e2
        cases e2
        exact ⟨u, r, .inl ⟨hk, by simp⟩⟩
      · rw [List.getElem?_set_ne (Ne.symm hj)] at e2
        obtain ⟨u', r', q⟩ := hl j y v' e1 e2 e3
        refine ⟨u', r', ?_⟩
        rcases q with ⟨k, e⟩ | ⟨k, c, e, z⟩
        · refine .inl ⟨k, ?_⟩
          have : y ≠ x := fun e => hj (nodup_ix hN e1 (e ▸ hi))
          simp [this, e]
        · exact .inr ⟨k, c, e, z.sameBut hs (cne y c e)⟩
    · obtain ⟨w', z⟩ := I.cell y c e
      exact ⟨w', z.sameBut hs (cne y c e)⟩
    · obtain ⟨e, n, ne, nf, d⟩ := I.pin p hp
      exact ⟨(hs.2 p.1 ne).trans e, n, ne, nf, d⟩
  · have hfn : X.fn x = true := by
      rcases hf with z | z
      · exact z
      · rw [z] at hk; cases hk
    obtain ⟨c, hc⟩ := I.ok.has x (.inl hk)
    obtain ⟨w', z⟩ := I.cell x c hc
    refine wpAny_storeName_cell I.ok.kind hk hc z (fun h' hc' hs => ?_)
    obtain ⟨oc, hoc, hocd⟩ := id z
    refine h { s with heap := h' } ⟨I.ok, I.os, I.bare, ⟨fun b o e n hb hx => ?_, fun b o e n hb hx => ?_, I.base.free, fun b o e hx => ?_, I.base.tups, I.base.frzs, I.base.tbls⟩, ⟨m, hn.sameBut hs (Ne.symm (cne x c hc)), fun j y v' e1 e2 e3 => ?_⟩, fun y c' e => ?_, I.free, I.freeC, fun p hp => ?_, tracked ⟨oc, hoc, I.freeC x c hc⟩ hs, by simpa using I.len⟩ ⟨c, hs, .inr hc⟩
    · exact (hs.2 b (Nat.ne_of_lt (Nat.lt_of_lt_of_le (Heap.lt_size e) (I.ok.cab x c hfn hc)))).trans (I.base.keep b o e n hb hx)
    · obtain ⟨sl, e1⟩ := I.base.slot b o e n hb hx
      exact ⟨sl, (hs.2 b (Nat.ne_of_lt (Nat.lt_of_lt_of_le (Heap.lt_size e) (I.ok.cab x c hfn hc)))).trans e1⟩
    · obtain ⟨o', e1⟩ := I.base.there b o e hx
      exact ⟨o', (hs.2 b (Nat.ne_of_lt (Nat.lt_of_lt_of_le (Heap.lt_size e) (I.ok.cab x c hfn hc)))).trans e1⟩
    · by_cases hj : j = i
      · subst hj
        rw [hi] at e1; cases e1
        rw [List.getElem?_set_self hiσ] at e2
        cases e2
        exact ⟨u, r, .inr ⟨.inl hk, c, hc, hc'⟩⟩
      · rw [List.getElem?_set_ne (Ne.symm hj)] at e2
        obtain ⟨u', r', q⟩ := hl j y v' e1 e2 e3
        refine ⟨u', r', ?_⟩
        rcases q with q | ⟨k, c', e, z'⟩
        · exact .inl q
        · refine .inr ⟨k, c', e, z'.sameBut hs ?_⟩
          rintro rfl
          exact hj (nodup_ix hN e1 (I.ok.inj _ _ _ e hc ▸ hi))
    · by_cases hcc : c' = c
      · subst hcc; exact ⟨_, hc'⟩
      · obtain ⟨w2, z2⟩ := I.cell y c' e
        exact ⟨w2, z2.sameBut hs hcc⟩
    · obtain ⟨e, n, ne, nf, d⟩ := I.pin p hp
      refine ⟨(hs.2 p.1 ?_).trans e, n, ne, nf, d⟩
      intro q
      rw [q, hoc] at e
      have q' : oc = p.2 := Option.some.inj e
      exact d w' (by rw [← q']; exact hocd)
theorem store_ok {M : Model} {A : Around} {E : Value → Shared → Prop} {i : Nat} {x : Str} {v : V} {u : Value} {Q : Unit → Shared → Prop} (I : Inv X pins σ H s) (hN : X.N.Nodup) (hi : X.N[i]? = some x) (hx : Loc X.env.scope x) (r : RelV v u)
    (h : ∀ s', Inv X pins (σ.set i (some v)) H s' → Q () s') (hf : X.fn x = true ∨ X.env.scope.names.lookup x = some .local := by first | exact .inl rfl | exact .inr rfl | assumption) : wpAny M A (storeName X.env x u) Q E s :=
  store_ok2 I hN hi hx r (fun s' I' _ => h s' I') hf
/-- behind a call or a block, the state as it is -/
theorem Inv.call' {s' : Shared} {ch : List Addr} (I : Inv X pins σ H s) (ho : s'.os = s.os) (u : Un (frs X.stack) ch H H' s.heap s'.heap) (hok : HOk X.prog X.w H' s'.heap) (hg : AllBare s'.gens)
    (hch : ∀ b ∈ ch, (b ∈ X.ex ∨ X.s₀.heap.objs.size ≤ b) ∧ b ≠ X.env.locals ∧ (∀ x c, X.env.cells.lookup x = some c → c ≠ b) ∧ ∀ p ∈ X.pn ++ pins, p.1 ≠ b) : Inv X pins σ H' s' := by
  obtain ⟨h', g', d', t', o'⟩ := s'
  have e : o' = s.os := ho
  subst e
  exact I.call (g' := g') (t' := t') (d' := d') u hok hg hch
end

/-! ### the judgements -/
/-- an exception: its class, its own dict's address (where it has one), the abstract heap behind it -/
noncomputable abbrev XK := Value → Option Addr → Hp → Prop
noncomputable abbrev St := List (Option V)
noncomputable abbrev VK := V → Hp → Prop
/-- an expression's reading; a test's; an argument list's -/
noncomputable abbrev TE := St → Hp → VK → Prop
noncomputable abbrev TT := St → Hp → (Bool → Hp → Prop) → Prop
noncomputable abbrev TA := St → Hp → (List V → Hp → Prop) → Prop
/-- what is wanted behind a statement -/
structure Ends where
  nx : St → Hp → Prop
  rt : VK
  bk : St → Hp → Prop := fun _ _ => False
  ct : St → Hp → Prop := fun _ _ => False
noncomputable abbrev TS := Ends → St → Hp → Prop

noncomputable def EP (X : Cx) (pins : List (Addr × Obj)) (σ : St) (Q : VK) (u : Value) (s' : Shared) : Prop := ∃ v H', Inv X pins σ H' s' ∧ RelV v u ∧ Q v H'
noncomputable def TP (X : Cx) (pins : List (Addr × Obj)) (σ : St) (Q : Bool → Hp → Prop) (b : Bool) (s' : Shared) : Prop := ∃ H', Inv X pins σ H' s' ∧ Q b H'
noncomputable def AP (X : Cx) (pins : List (Addr × Obj)) (σ : St) (Q : List V → Hp → Prop) (us : List Value) (s' : Shared) : Prop := ∃ vs H', Inv X pins σ H' s' ∧ Vals vs us ∧ Q vs H'
noncomputable def SP (X : Cx) (pins : List (Addr × Obj)) (D : Ends) (f : Flow) (s' : Shared) : Prop :=
  match f with
  | .next => ∃ σ' H', Inv X pins σ' H' s' ∧ D.nx σ' H'
  | .brk => ∃ σ' H', Inv X pins σ' H' s' ∧ D.bk σ' H'
  | .cont => ∃ σ' H', Inv X pins σ' H' s' ∧ D.ct σ' H'
  | .ret u => ∃ v σ' H', Inv X pins σ' H' s' ∧ RelV v u ∧ D.rt v H'

noncomputable def PE (X : Cx) (e : Expr) (t : TE) : Prop :=
  ∀ (pins : List (Addr × Obj)) (s : Shared) (σ : St) (H : Hp) (Q : VK), Inv X pins σ H s → t σ H Q → wpAny (model X.prog X.w) X.A (eval e X.env) (EP X pins σ Q) X.xe s
noncomputable def PT (X : Cx) (e : Expr) (t : TT) : Prop :=
  ∀ (pins : List (Addr × Obj)) (s : Shared) (σ : St) (H : Hp) (Q : Bool → Hp → Prop), Inv X pins σ H s → t σ H Q → wpAny (model X.prog X.w) X.A (isTrue e X.env (eval e X.env)) (TP X pins σ Q) X.xe s
/-- a test whatever its 'whole' is (and, or) -/
noncomputable def PW (X : Cx) (e : Expr) (t : TT) : Prop :=
  ∀ (whole : Sem Value) (pins : List (Addr × Obj)) (s : Shared) (σ : St) (H : Hp) (Q : Bool → Hp → Prop), Inv X pins σ H s → t σ H Q → wpAny (model X.prog X.w) X.A (isTrue e X.env whole) (TP X pins σ Q) X.xe s
theorem PW.pt {X : Cx} {e : Expr} {t : TT} (h : PW X e t) : PT X e t := h _
/-- an argument list (no star), from the left -/
noncomputable def PA (X : Cx) (es : List Expr) (t : TA) : Prop :=
  ∀ (pos : Pos) (pins : List (Addr × Obj)) (s : Shared) (σ : St) (H : Hp) (Q : List V → Hp → Prop), Inv X pins σ H s → t σ H Q → wpAny (model X.prog X.w) X.A (spliced (backTo pos (starEach es X.env))) (AP X pins σ Q) X.xe s
noncomputable def PS (X : Cx) (st : Stmt) (t : TS) : Prop :=
  ∀ (pins : List (Addr × Obj)) (s : Shared) (σ : St) (H : Hp) (D : Ends), Inv X pins σ H s → t D σ H → wpAny (model X.prog X.w) X.A (exec st X.env) (SP X pins D) X.xe s
noncomputable def PSs (X : Cx) (st : List Stmt) (t : TS) : Prop :=
  ∀ (pins : List (Addr × Obj)) (s : Shared) (σ : St) (H : Hp) (D : Ends), Inv X pins σ H s → t D σ H → wpAny (model X.prog X.w) X.A (execs st X.env) (SP X pins D) X.xe s
/-- weaken the end -/
theorem thn {α : Type} {t : Sem α} {Q Q' : α → Shared → Prop} {M : Model} {A : Around} {E : Value → Shared → Prop} {s : Shared} (h : wpAny M A t Q E s) (hQ : ∀ a s, Q a s → Q' a s) : wpAny M A t Q' E s := wpAny_mono h hQ fun _ _ x => x
end L2

namespace L2
open PySem PySem.Spec PyProof.Rows
section
variable {X : Cx}

/-! ### names and constants -/
noncomputable def tVar (i : Nat) : TE := fun σ H Q => ∃ v, σ[i]? = some (some v) ∧ Q v H
noncomputable def tC (v : V) : TE := fun _ H Q => Q v H
theorem pe_var {i : Nat} {x : Str} {pos : Pos} (hN : X.N[i]? = some x) (hv : Vis X.env.scope x) (hd : (x == ("__debug__" : Str)) = false := by decide) (hcd : (x == ("__classdict__" : Str)) = false := by decide) : PE X (.Name x pos) (tVar i) := by
  intro pins s σ H Q I h
  obtain ⟨v, e, h⟩ := h
  obtain ⟨m, hn, hl⟩ := I.loc
  obtain ⟨u, r, l⟩ := hl i x v hN e hv
  have fin : EP X pins σ Q u s := ⟨v, H, I, r, h⟩
  rcases l with ⟨hk, hm⟩ | ⟨hk, c, hc, hcell⟩
  · exact wpAny_Name (wpAny_loadName_local I.ok.kind hk hn hm fin) hd
  · rcases hk with hk | hk
    · exact wpAny_Name (wpAny_loadName_cell I.ok.kind hk hc hcell fin) hd
    · exact wpAny_Name (wpAny_loadName_free I.ok.kind hk hc hcell fin hcd) hd
theorem pe_int {i j pos} : PE X (.Constant (.int i) j pos) (tC (.int i)) := fun _ _ _ H _ I h => wpAny_Constant_int ⟨.int i, H, I.tok _, ⟨_, rfl⟩, h⟩
theorem pe_bl {b j pos} : PE X (.Constant (.bool b) j pos) (tC (.bl b)) := fun _ _ _ H _ I h => Constant_bool ⟨.bl b, H, I, rfl, h⟩
theorem pe_non {j pos} : PE X (.Constant .none j pos) (tC .non) := fun _ _ _ H _ I h => Constant_none ⟨.non, H, I, rfl, h⟩
theorem pe_str {x j pos} : PE X (.Constant (.str x) j pos) (tC (.str x)) := fun _ _ _ H _ I h => Calls.Constant_str ⟨.str x, H, I.tok _, ⟨_, rfl⟩, h⟩

/-- a global name of the def -/
noncomputable def Gl (X : Cx) (x : Str) : Prop := X.env.kindOf x = some .globalImplicit
theorem ld_glob {E : Value → Shared → Prop} {pins : List (Addr × Obj)} {s : Shared} {σ : St} {H : Hp} {x : Str} {u : Value} {pos : Pos} {Q : Value → Shared → Prop} (I : Inv X pins σ H s) (hg : Gl X x) (hm : X.mg x = some u) (h : Q u s)
    (hd : (x == ("__debug__" : Str)) = false := by decide) : wpAny (model X.prog X.w) X.A (eval (.Name x pos) X.env) Q E s :=
  Calls.Name_function_global I.ok.kind hg (Calls.loadGlobal_global (by rw [I.ok.glob]; exact I.mod.glob.keeps I.bk) hm h) hd
theorem ld_blt {E : Value → Shared → Prop} {pins : List (Addr × Obj)} {s : Shared} {σ : St} {H : Hp} {x : Str} {u : Value} {pos : Pos} {Q : Value → Shared → Prop} (I : Inv X pins σ H s) (hg : Gl X x) (hm : X.mg x = none) (hv : bootBuiltins x = some u) (h : Q u s)
    (hn : x ≠ "__name__" := by decide) (hd : (x == ("__debug__" : Str)) = false := by decide) : wpAny (model X.prog X.w) X.A (eval (.Name x pos) X.env) Q E s := by
  obtain ⟨mb, h1, h2⟩ := I.mod.blt
  exact Calls.Name_function_global I.ok.kind hg (Calls.loadGlobal_builtin (by rw [I.ok.glob]; exact I.mod.glob.keeps I.bk) hm (by rw [I.ok.blt]; exact h1.keeps I.bk) ((h2 x hn).trans hv) h) hd
theorem pe_bltn {x : Str} {v : V} {u : Value} {pos : Pos} (hg : Gl X x) (hm : X.mg x = none) (hv : bootBuiltins x = some u) (r : RelV v u) (hn : x ≠ "__name__" := by decide) (hd : (x == ("__debug__" : Str)) = false := by decide) : PE X (.Name x pos) (tC v) :=
  fun _ _ _ H _ I h => ld_blt I hg hm hv ⟨v, H, I, r, h⟩ hn hd

/-! ### arithmetic -/
variable {a b : Expr} {ta tb : TE} {pos : Pos}
/-! ### comparisons -/
noncomputable def PC (X : Cx) (op : CmpOp) (a b : Expr) (t : TE) : Prop :=
  ∀ (pins : List (Addr × Obj)) (s : Shared) (σ : St) (H : Hp) (Q : VK), Inv X pins σ H s → t σ H Q →
    wpAny (model X.prog X.w) X.A (eval a X.env) (fun v s₁ => wpAny (model X.prog X.w) X.A (eval b X.env) (fun u s₂ => wpAny (model X.prog X.w) X.A (compareOp op v u) (EP X pins σ Q) X.xe s₂) X.xe s₁) X.xe s
theorem nobehind (b : Expr) {op : CmpOp} (h : op ≠ .In) (h2 : op ≠ .NotIn) : behindInMarks op b = false := by
  have e1 : (op == CmpOp.In) = false := by cases op <;> first | rfl | exact absurd rfl h
  have e2 : (op == CmpOp.NotIn) = false := by cases op <;> first | rfl | exact absurd rfl h2
  cases b <;> simp [behindInMarks, e1, e2]
/-- is None -/
noncomputable def tIsN (ta : TE) : TE := fun σ H Q => ta σ H fun x H1 => Q (.bl (decide (x = .non))) H1
noncomputable def tNotN (ta : TE) : TE := fun σ H Q => ta σ H fun x H1 => Q (.bl (!decide (x = .non))) H1
theorem RelV.none_iff {x : V} {v : Value} (r : RelV x v) : (v == Value.none) = decide (x = .non) := by
  cases x with
  | non => cases r; rfl
  | bl _ => cases r; rfl
  | int _ => obtain ⟨t, rfl⟩ := r; rfl
  | str _ => obtain ⟨t, rfl⟩ := r; rfl
  | byt _ => obtain ⟨t, rfl⟩ := r; rfl
  | flt _ => obtain ⟨t, rfl⟩ := r; rfl
  | ref _ => cases r; rfl
  | ty _ => cases r; rfl
theorem pc_isN {j pos'} (ha : PE X a ta) : PC X .Is a (.Constant .none j pos') (tIsN ta) := by
  intro pins s σ H Q I h
  refine thn (ha pins s σ H _ I h) fun v s1 ⟨x, H1, I1, r1, q1⟩ => ?_
  exact Constant_none (is_none_gen ⟨.bl _, H1, I1, by rw [r1.none_iff]; rfl, q1⟩)
theorem pc_notN {j pos'} (ha : PE X a ta) : PC X .IsNot a (.Constant .none j pos') (tNotN ta) := by
  intro pins s σ H Q I h
  refine thn (ha pins s σ H _ I h) fun v s1 ⟨x, H1, I1, r1, q1⟩ => ?_
  exact Constant_none (isnot_none_gen ⟨.bl _, H1, I1, by rw [r1.none_iff]; rfl, q1⟩)
/-- a comparison as a value, as a test -/
noncomputable def tB (t : TE) : TT := fun σ H Q => t σ H fun x H1 => ∃ c, x = .bl c ∧ Q c H1
theorem pt_cmp {op : CmpOp} {t : TE} (h : PC X op a b t) (h1 : behindInMarks op b = false := by first | exact nobehind _ (by decide) (by decide) | rfl) : PT X (.Compare a [op] [b] pos) (tB t) := by
  intro pins s σ H Q I hw
  refine wpAny_isTrue_Compare1 (thn (h pins s σ H _ I hw) fun v s1 h1 => thn h1 fun u s2 h2 => thn h2 fun c s3 ⟨x, H1, I1, r1, q1⟩ => ?_) h1
  obtain ⟨d, rfl, q⟩ := q1
  cases r1
  exact wpAny_truthy_bool ⟨H1, I1, q⟩
/-- an expression whose value is a bool, as a test -/
theorem pt_val {e : Expr} {t : TE} (h : PE X e t) (he : ∀ whole, isTrue e X.env whole = (do let v ← whole; standAt e.pos; holding [v] (truthy v)) := by intro _; rfl) : PT X e (tB t) := by
  intro pins s σ H Q I hw
  refine isTrue_plain (thn (h pins s σ H _ I hw) fun v s1 ⟨x, H1, I1, r1, q1⟩ => ?_) (he _)
  obtain ⟨d, rfl, q⟩ := q1
  cases r1
  exact wpAny_truthy_bool ⟨H1, I1, q⟩

/-! ### and, or, not -/
variable {tA tB' : TT} {rest : List Expr}
noncomputable def tAnd (t u : TT) : TT := fun σ H Q => t σ H fun c H1 => if c = true then u σ H1 Q else Q false H1
noncomputable def tOr (t u : TT) : TT := fun σ H Q => t σ H fun c H1 => if c = true then Q true H1 else u σ H1 Q
noncomputable def tNot (t : TT) : TT := fun σ H Q => t σ H fun c H1 => Q (!c) H1
theorem pw_and1 (ha : PT X a tA) : PW X (.BoolOp .And [a] pos) tA := by
  intro wh pins s σ H Q I h
  refine isTrue_and (thn (ha pins s σ H Q I h) fun c s1 e => ?_)
  cases c with
  | true => exact isTrue_and_nil e
  | false => exact e
theorem pw_or1 (ha : PT X a tA) : PW X (.BoolOp .Or [a] pos) tA := by
  intro wh pins s σ H Q I h
  refine isTrue_or (thn (ha pins s σ H Q I h) fun c s1 e => ?_)
  cases c with
  | false => exact isTrue_or_nil e
  | true => exact e
theorem pw_and (ha : PT X a tA) (hb : PW X (.BoolOp .And (b :: rest) pos) tB') : PW X (.BoolOp .And (a :: b :: rest) pos) (tAnd tA tB') := by
  intro wh pins s σ H Q I h
  refine isTrue_and (thn (ha pins s σ H _ I h) fun c s1 ⟨H1, I1, q1⟩ => ?_)
  cases c with
  | true => exact hb wh pins s1 σ H1 Q I1 q1
  | false => exact ⟨H1, I1, q1⟩
theorem pw_or (ha : PT X a tA) (hb : PW X (.BoolOp .Or (b :: rest) pos) tB') : PW X (.BoolOp .Or (a :: b :: rest) pos) (tOr tA tB') := by
  intro wh pins s σ H Q I h
  refine isTrue_or (thn (ha pins s σ H _ I h) fun c s1 ⟨H1, I1, q1⟩ => ?_)
  cases c with
  | true => exact ⟨H1, I1, q1⟩
  | false => exact hb wh pins s1 σ H1 Q I1 q1
theorem pt_not (ha : PT X a tA) : PT X (.UnaryOp .Not a pos) (tNot tA) := by
  intro pins s σ H Q I h
  exact isTrue_not (ha pins s σ H (fun c H1 => Q (!c) H1) I h)
/-- .. as values (bools) -/
noncomputable def tAndV (ta tb : TE) : TE := fun σ H Q => ta σ H fun x H1 => ∃ c, x = .bl c ∧ if c = true then tb σ H1 Q else Q (.bl false) H1
theorem pe_one {op} {t : TE} (h : PE X a t) : PE X (.BoolOp op [a] pos) t := fun pins s σ H Q I hw => BoolOp_one (h pins s σ H Q I hw)
theorem pe_and (ha : PE X a ta) (hb : PE X (.BoolOp .And (b :: rest) pos) tb) : PE X (.BoolOp .And (a :: b :: rest) pos) (tAndV ta tb) := by
  intro pins s σ H Q I h
  refine BoolOp_and (thn (ha pins s σ H _ I h) fun v s1 ⟨x, H1, I1, r1, q1⟩ => ?_)
  obtain ⟨c, rfl, q1⟩ := q1
  cases r1
  refine wpAny_truthy_bool ?_
  cases c with
  | true => exact hb pins s1 σ H1 Q I1 q1
  | false => exact ⟨.bl false, H1, I1, rfl, q1⟩
end
end L2

namespace L2
open PySem PySem.Spec PyProof.Rows

/-! ### a list, a tuple that is read: tracked, frozen, or an object of the module -/
noncomputable def SqL (K : PySem.W.Frag) (H : Hp) (a : Addr) (xs : List V) : Prop :=
  Rd H a (.lst xs) ∨
    ∃ (o : Obj) (its : Array Value) (n : Nat), K.lookup a = some o ∧ o.cls = .type "list" ∧ o.dict = none ∧ o.data = .seq its n ∧ its.size ≤ sizeLine ∧ Vals xs its.toList
noncomputable def SqT (K : PySem.W.Frag) (H : Hp) (a : Addr) (xs : List V) : Prop :=
  Rd H a (.tup xs) ∨
    ∃ (o : Obj) (its : Array Value) (n : Nat), K.lookup a = some o ∧ o.cls = .type "tuple" ∧ o.data = .seq its n ∧ its.size ≤ sizeLine ∧ Vals xs its.toList
noncomputable def absV : Value → Option V
  | .none => some .non
  | .bool b => some (.bl b)
  | .int i _ => some (.int i)
  | .str x _ => some (.str x)
  | .bytes b _ => some (.byt b)
  | .float b _ => some (.flt b)
  | .ref a => some (.ref a)
  | .type n => some (.ty n)
  | _ => none
theorem RelV.abs {x : V} {u : Value} (r : RelV x u) : absV u = some x := by
  cases x with
  | non => cases r; rfl
  | bl _ => cases r; rfl
  | int _ => obtain ⟨t, rfl⟩ := r; rfl
  | str _ => obtain ⟨t, rfl⟩ := r; rfl
  | byt _ => obtain ⟨t, rfl⟩ := r; rfl
  | flt _ => obtain ⟨t, rfl⟩ := r; rfl
  | ref _ => cases r; rfl
  | ty _ => cases r; rfl
theorem RelV.inj {x y : V} {u : Value} (r : RelV x u) (q : RelV y u) : x = y := Option.some.inj (r.abs.symm.trans q.abs)
theorem Vals.inj : ∀ {xs ys : List V} {us : List Value}, Vals xs us → Vals ys us → xs = ys
  | _, _, _, .nil, .nil => rfl
  | _, _, _, .cons r t, .cons r' t' => by rw [r.inj r', Vals.inj t t']
section
variable {X : Cx} {pins : List (Addr × Obj)} {σ : St} {H : Hp} {s : Shared} {a : Addr} {xs ys : List V}
theorem SqL.of {K : PySem.W.Frag} (h : H a = some (.lst xs)) : SqL K H a xs := .inl (.inl h)
theorem SqT.of {K : PySem.W.Frag} (h : H a = some (.tup xs)) : SqT K H a xs := .inl (.inl h)
theorem Inv.list (I : Inv X pins σ H s) (h : SqL X.K H a xs) : ∃ its : List Value, Vals xs its ∧ PlainL s.heap a its.toArray ∧ xs.length ≤ sizeLine := by
  rcases h with h | ⟨o, its, n, hk, hc, hd, hs, hz, r⟩
  · obtain ⟨z, its, n, r, e⟩ := h.ok I.hok
    exact ⟨its, r, ⟨_, n, e, rfl, rfl, rfl⟩, z⟩
  · refine ⟨its.toList, r, ⟨o, n, I.kIn a o hk, hc, hd, by simpa using hs⟩, ?_⟩
    have e := r.length
    simp only [Array.length_toList] at e
    omega
theorem Inv.tuple (I : Inv X pins σ H s) (h : SqT X.K H a xs) : ∃ its : List Value, Vals xs its ∧ IsTup s.heap a its.toArray ∧ xs.length ≤ sizeLine := by
  rcases h with h | ⟨o, its, n, hk, hc, hs, hz, r⟩
  · obtain ⟨z, its, r, p⟩ := h.ok I.hok
    exact ⟨its, r, p, z⟩
  · refine ⟨its.toList, r, ⟨o, I.kIn a o hk, hc, n, by simpa using hs⟩, ?_⟩
    have e := r.length
    simp only [Array.length_toList] at e
    omega
theorem Inv.list_inj (I : Inv X pins σ H s) (h : SqL X.K H a xs) (h' : SqL X.K H a ys) : xs = ys := by
  obtain ⟨its, r, ⟨o, n, e, _, _, d⟩, _⟩ := I.list h
  obtain ⟨its', r', ⟨o', n', e', _, _, d'⟩, _⟩ := I.list h'
  rw [e] at e'; cases e'
  rw [d] at d'
  injection d' with d1 _
  have : its = its' := by simpa using congrArg Array.toList d1
  subst this
  exact r.inj r'
end

/-! ### another wish about exceptions -/
noncomputable abbrev Cx.wish (X : Cx) (E : Value → Shared → Prop) : Cx := { X with xe := E }
/-- no exception leaves -/
noncomputable abbrev Cx.nox (X : Cx) : Cx := X.wish fun _ _ => False
theorem Cx.Ok.wish {X : Cx} (ok : X.Ok) (E : Value → Shared → Prop) : (X.wish E).Ok :=
  ⟨ok.mod, ok.kind, ok.glob, ok.blt, ok.above, ok.inj, ok.has, ok.cab, ok.hd, ok.frames, ok.stk, ok.exf, ok.bs, ok.bsz, ok.noex, ok.exfs, ok.funs, ok.frf⟩
theorem Cx.Ok.unwish {X : Cx} {E : Value → Shared → Prop} (ok : (X.wish E).Ok) : X.Ok :=
  ⟨ok.mod, ok.kind, ok.glob, ok.blt, ok.above, ok.inj, ok.has, ok.cab, ok.hd, ok.frames, ok.stk, ok.exf, ok.bs, ok.bsz, ok.noex, ok.exfs, ok.funs, ok.frf⟩
section
variable {X : Cx} {pins : List (Addr × Obj)} {σ : St} {H : Hp} {s : Shared} {E : Value → Shared → Prop}
theorem Inv.wish (I : Inv X pins σ H s) (E : Value → Shared → Prop) : Inv (X.wish E) pins σ H s := ⟨I.ok.wish E, I.os, I.bare, I.base, I.loc, I.cell, I.free, I.freeC, I.pin, I.hok, I.len⟩
theorem Inv.unwish (I : Inv (X.wish E) pins σ H s) : Inv X pins σ H s := ⟨I.ok.unwish, I.os, I.bare, I.base, I.loc, I.cell, I.free, I.freeC, I.pin, I.hok, I.len⟩
theorem SP.unwish {D : Ends} {f : Flow} {s' : Shared} (h : SP (X.wish E) pins D f s') : SP X pins D f s' := by
  cases f with
  | next => obtain ⟨σ', H', I, q⟩ := h; exact ⟨σ', H', I.unwish, q⟩
  | brk => obtain ⟨σ', H', I, q⟩ := h; exact ⟨σ', H', I.unwish, q⟩
  | cont => obtain ⟨σ', H', I, q⟩ := h; exact ⟨σ', H', I.unwish, q⟩
  | ret u => obtain ⟨v, σ', H', I, r, q⟩ := h; exact ⟨v, σ', H', I.unwish, r, q⟩
theorem PSs.nox {st : List Stmt} {t : TS} (h : PSs X.nox st t) : PSs X st t := fun pins s σ H D I hw =>
  wpAny_mono (h pins s σ H D (I.wish _) hw) (fun _ _ q => q.unwish) fun _ _ z => False.elim z
end

/-! ### blocks and small statements -/
section
variable {X : Cx} {st : Stmt} {rest : List Stmt} {t u : TS} {e : Expr} {te : TE} {pos : Pos}
noncomputable def tNext : TS := fun D σ H => D.nx σ H
noncomputable def tSeq (t u : TS) : TS := fun D σ H => t { D with nx := u D } σ H
theorem pss_nil : PSs X [] tNext := fun _ _ σ H _ I h => wpAny_execs_nil ⟨σ, H, I, h⟩
theorem pss_cons (h1 : PS X st t) (h2 : PSs X rest u) : PSs X (st :: rest) (tSeq t u) := by
  intro pins s σ H D I h
  refine wpAny_execs_cons (thn (h1 pins s σ H { D with nx := u D } I h) fun f s1 q => ?_)
  cases f with
  | next =>
    obtain ⟨σ', H', I', q⟩ := q
    exact h2 pins s1 σ' H' D I' q
  | ret v => exact q
  | brk => exact q
  | cont => exact q
theorem pss_one (h1 : PS X st t) : PSs X [st] t := by
  intro pins s σ H D I h
  refine wpAny_execs_cons (thn (h1 pins s σ H D I h) fun f s1 q => ?_)
  cases f with
  | next => exact wpAny_execs_nil q
  | ret v => exact q
  | brk => exact q
  | cont => exact q
/-- in a def's body nothing is shown -/
theorem Inv.quiet {pins : List (Addr × Obj)} {σ : St} {H : Hp} {s : Shared} (I : Inv X pins σ H s) : interactive X.env = false := by simp [interactive, I.ok.kind]
/-- an expression whose value is dropped -/
noncomputable def tDrop (te : TE) : TS := fun D σ H => te σ H fun _ H1 => D.nx σ H1
theorem ps_expr (he : PE X e te) (hs : swapsWith e none pos.line X.env = pure false := by rfl) : PS X (.Expr e pos) (tDrop te) := by
  intro pins s σ H D I h
  exact wpAny_Expr_any (thn (he pins s σ H _ I h) fun v s1 ⟨x, H1, I1, r1, q1⟩ => ⟨σ, H1, I1, q1⟩) I.quiet hs
noncomputable def tRet (te : TE) : TS := fun D σ H => te σ H D.rt
theorem ps_ret (he : PE X e te) : PS X (.Return (some e) pos) (tRet te) := by
  intro pins s σ H D I h
  exact wpAny_Return_some (thn (he pins s σ H _ I h) fun v s1 ⟨x, H1, I1, r1, q1⟩ => ⟨x, σ, H1, I1, r1, q1⟩)
noncomputable def tIfS (c : TT) (t u : TS) : TS := fun D σ H => c σ H fun b H1 => if b = true then t D σ H1 else u D σ H1
theorem ps_if {c : Expr} {a b : List Stmt} {tc : TT} (hc : PT X c tc) (ha : PSs X a t) (hb : PSs X b u) : PS X (.If c a b pos) (tIfS tc t u) := by
  intro pins s σ H D I h
  refine wpAny_If (thn (hc pins s σ H _ I h) fun d s1 ⟨H1, I1, q1⟩ => ?_)
  cases d with
  | true => exact ha pins s1 σ H1 D I1 q1
  | false => exact hb pins s1 σ H1 D I1 q1
end

/-! ### targets -/
noncomputable abbrev TG := V → St → Hp → (St → Hp → Prop) → Prop
noncomputable abbrev TGs := List V → St → Hp → (St → Hp → Prop) → Prop
noncomputable def PG (X : Cx) (target : Expr) (t : TG) : Prop :=
  ∀ (pins : List (Addr × Obj)) (s : Shared) (σ : St) (H : Hp) (v : V) (u : Value) (Q : St → Hp → Prop), Inv X pins σ H s → RelV v u → t v σ H Q →
    wpAny (model X.prog X.w) X.A (assign target X.env u) (fun _ s' => ∃ σ' H', Inv X pins σ' H' s' ∧ Q σ' H') X.xe s
/-- several targets, one after another -/
noncomputable def PGs (X : Cx) (ts : List Expr) (t : TGs) : Prop :=
  ∀ (pins : List (Addr × Obj)) (s : Shared) (σ : St) (H : Hp) (vs : List V) (us : List Value) (Q : St → Hp → Prop), Inv X pins σ H s → Vals vs us → t vs σ H Q →
    wpAny (model X.prog X.w) X.A (assignInOrder ((assignEach ts X.env).map (·.2)) us) (fun _ s' => ∃ σ' H', Inv X pins σ' H' s' ∧ Q σ' H') X.xe s
section
variable {X : Cx} {pos : Pos}
noncomputable def gName (i : Nat) : TG := fun v σ H Q => Q (σ.set i (some v)) H
theorem pg_name {i : Nat} {x : Str} (hN : X.N.Nodup) (hi : X.N[i]? = some x) (hx : Loc X.env.scope x) (hf : X.fn x = true ∨ X.env.scope.names.lookup x = some .local := by first | exact .inl rfl | exact .inr rfl | assumption) : PG X (.Name x pos) (gName i) := by
  intro pins s σ H v u Q I r h
  exact wpAny_assign_Name (store_ok I hN hi hx r (fun s' I' => ⟨_, H, I', h⟩) hf)
noncomputable def gNil : TGs := fun vs σ H Q => vs = [] ∧ Q σ H
noncomputable def gCons (t : TG) (u : TGs) : TGs := fun vs σ H Q => ∃ v r, vs = v :: r ∧ t v σ H fun σ' H' => u r σ' H' Q
theorem pgs_nil : PGs X [] gNil := by
  intro pins s σ H vs us Q I r h
  obtain ⟨e, h⟩ := h
  subst e
  cases r
  exact assignInOrder_nil ⟨σ, H, I, h⟩
theorem pgs_cons {e : Expr} {es : List Expr} {t : TG} {u : TGs} (h1 : PG X e t) (h2 : PGs X es u)
    (hs : (assignEach (e :: es) X.env).map (·.2) = assign e X.env :: (assignEach es X.env).map (·.2) := by rfl) : PGs X (e :: es) (gCons t u) := by
  intro pins s σ H vs us Q I r h
  obtain ⟨v, vr, e1, h⟩ := h
  subst e1
  cases r with
  | cons r rr =>
    rw [hs]
    refine assignInOrder_cons (thn (h1 pins s σ H _ _ _ I r h) fun _ s1 ⟨σ1, H1, I1, q1⟩ => ?_)
    exact h2 pins s1 σ1 H1 _ _ Q I1 rr q1
/-- (a, b, ..) = a tuple of that length -/
noncomputable def gTup (K : PySem.W.Frag) (n : Nat) (t : TGs) : TG := fun v σ H Q => ∃ a xs, v = .ref a ∧ SqT K H a xs ∧ xs.length = n ∧ t xs σ H Q
theorem pg_tup {es : List Expr} {k : Nat} {t : TGs} {n : Nat} (hc : X.calm = true) (h : PGs X es t)
    (hn : (assignEach es X.env).length = n := by rfl) (hst : (assignEach es X.env).findIdx? (·.1) = none := by rfl) : PG X (.Tuple es k pos) (gTup X.K n t) := by
  intro pins s σ H v u Q I r hw
  obtain ⟨a, xs, e1, hq, hl, hw⟩ := hw
  subst e1
  cases r
  obtain ⟨its, rv, ht, hz⟩ := I.tuple hq
  refine assign_Tuple_tuple (I.ok.hd hc) ht (by simp [hn, ← hl, rv.length]) hst fun h' hx => ?_
  have I1 : Inv X pins σ H { s with heap := h' } := I.kept (t' := s.toks) fun b o e => hx b o (Nat.ne_of_lt (Heap.lt_size e)) e
  exact h pins _ σ H xs _ Q I1 (by simpa using rv) hw
/-- target = value -/
noncomputable def tAsg (te : TE) (g : TG) : TS := fun D σ H => te σ H fun x H1 => g x σ H1 D.nx
theorem ps_asg {tg e : Expr} {te : TE} {g : TG} (he : PE X e te) (hg : PG X tg g) (hs : swapsWithSole [tg] e pos.line X.env = pure false := by rfl) (hw : swappedStores [tg] e X.env = pure none := by rfl)
    (h1 : (assignEach [tg] X.env).map (·.2) = [assign tg X.env] := by rfl) : PS X (.Assign [tg] e pos) (tAsg te g) := by
  intro pins s σ H D I h
  refine wpAny_Assign_stores (thn (he pins s σ H _ I h) fun v s1 ⟨x, H1, I1, r1, q1⟩ => ?_) hs hw
  rw [h1]
  exact thn (hg pins s1 σ H1 x v _ I1 r1 q1) fun _ s2 q => q
/-- name = value -/
theorem ps_set {i : Nat} {x : Str} {e : Expr} {te : TE} {pos' : Pos} (hN : X.N.Nodup) (hi : X.N[i]? = some x) (hx : Loc X.env.scope x) (he : PE X e te) (hs : swapsWith e (some (.Name x pos')) pos.line X.env = pure false := by rfl) (hf : X.fn x = true ∨ X.env.scope.names.lookup x = some .local := by first | exact .inl rfl | exact .inr rfl | assumption) :
    PS X (.Assign [.Name x pos'] e pos) (tAsg te (gName i)) := by
  intro pins s σ H D I h
  refine wpAny_Assign_Name (thn (he pins s σ H _ I h) fun v s1 ⟨y, H1, I1, r1, q1⟩ => ?_) hs
  exact store_ok I1 hN hi hx r1 (fun s2 I2 => ⟨_, H1, I2, q1⟩) hf
end

/-! ### while -/
section
variable {X : Cx} {pos : Pos}
/-- the invariant W with its measure -/
noncomputable def tWhile (c : TT) (tb : TS) : TS := fun D σ H => ∃ W : Nat → St → Hp → Prop, (∃ m, W m σ H) ∧ ∀ m σ H, W m σ H →
  c σ H fun b H1 => if b = true then ∃ N : St → Hp → Prop, (∀ σ' H', N σ' H' → ∃ m', m' < m ∧ W m' σ' H') ∧ tb { D with nx := N, ct := N, bk := D.nx } σ H1 else D.nx σ H1
theorem ps_while {c : Expr} {body : List Stmt} {tc : TT} {tb : TS} (hp : PassesOwn (model X.prog X.w) X.A X.env X.xe) (hc : PT X c tc) (hb : PSs X body tb) : PS X (.While c body [] pos) (tWhile tc tb) := by
  intro pins s σ H D I h
  obtain ⟨W, ⟨m0, w0⟩, turn⟩ := h
  refine wpAny_While (codeAny_whileLoop (fun n s' => ∃ σ' H', Inv X pins σ' H' s' ∧ W n σ' H') ?_ m0 ⟨σ, H, I, w0⟩)
  rintro n s1 ⟨σ1, H1, I1, w1⟩
  refine wpAny_passesOwn hp (thn (hc pins s1 σ1 H1 _ I1 (turn n σ1 H1 w1)) fun b s2 ⟨H2, I2, q2⟩ => ?_)
  cases b with
  | true =>
    obtain ⟨N, hN, q2⟩ := q2
    rw [if_pos rfl]
    refine wpAny_passesOwn hp (thn (hb pins s2 σ1 H2 _ I2 q2) fun f s3 q3 => ?_)
    cases f with
    | next =>
      obtain ⟨σ3, H3, I3, n3⟩ := q3
      obtain ⟨m', hm, w3⟩ := hN σ3 H3 n3
      exact ⟨m', hm, σ3, H3, I3, w3⟩
    | cont =>
      obtain ⟨σ3, H3, I3, n3⟩ := q3
      obtain ⟨m', hm, w3⟩ := hN σ3 H3 n3
      exact ⟨m', hm, σ3, H3, I3, w3⟩
    | brk => exact q3
    | ret v => exact q3
  | false =>
    rw [if_neg Bool.false_ne_true]
    exact wpAny_execs_nil ⟨σ1, H2, I2, q2⟩
end

/-! ### what a loop or a comprehension walks -/
/-- at turn i: it yields x (the heap may grow), or it stops -/
structure It where
  go : Nat → Hp → Prop
  yld : Nat → Hp → V → Hp → Prop
  stop : Nat → Hp → Prop
/-- the iterator's own objects may turn: they are not the frame's, not pinned, younger than the entry (or a comprehension's own) -/
noncomputable def FpOk (X : Cx) (pins : List (Addr × Obj)) (H : Hp) (b : Addr) : Prop :=
  H b = none ∧ b ≠ X.env.locals ∧ b ∉ X.fs ∧ (b ∈ X.ex ∨ X.s₀.heap.objs.size ≤ b) ∧ (∀ x c, X.env.cells.lookup x = some c → c ≠ b) ∧ ∀ p ∈ X.pn ++ pins, p.1 ≠ b
theorem Inv.fpOk {X : Cx} {pins : List (Addr × Obj)} {σ : St} {H H' : Hp} {s : Shared} {b : Addr} (I : Inv X pins σ H s) (hb : s.heap.objs.size ≤ b) (hn : H' b = none) : FpOk X pins H' b := by
  refine ⟨hn, Nat.ne_of_gt (Nat.lt_of_lt_of_le I.lt hb), I.nofs hb, .inr (Nat.le_trans I.sz hb), fun x c e z => ?_, fun p hp z => ?_⟩
  · obtain ⟨v, q⟩ := I.cell x c e
    exact absurd (Nat.lt_of_lt_of_le q.lt (by rw [z]; exact hb)) (Nat.lt_irrefl _)
  · exact absurd (Nat.lt_of_lt_of_le (Heap.lt_size (I.pin p hp).1) (by rw [z]; exact hb)) (Nat.lt_irrefl _)
structure Turn (P : Program) (w : World) (K : PySem.W.Frag) (tg : Expr) (J : It) (fp : List Addr) (it : Addr) (tn : Nat → Heap → Prop) : Prop where
  mem : it ∈ fp
  obj : ∀ i h, tn i h → ∀ b ∈ fp, ∃ o, h.get? b = some o ∧ ∀ v, o.data ≠ .cell v
  keep : ∀ i h h', tn i h → (∀ b ∈ fp, ∀ o, h.get? b = some o → h'.get? b = some o) → tn i h'
  item : ∀ (X : Cx), X.prog = P → X.w = w → X.K = K → X.calm = true → ∀ (i : Nat) (pins : List (Addr × Obj)) (s : Shared) (σ : St) (H : Hp) (E : Value → Shared → Prop), Inv X pins σ H s → (∀ b ∈ fp, FpOk X pins H b) → tn i s.heap → J.go i H →
    wpAny (model P w) X.A (pyNext (.ref it)) (fun r s1 => ∃ u, r = some u ∧
      wpAny (model P w) X.A (letOwnedTupleGo tg (.ref it) u) (fun _ s2 => ∃ x H', Inv X pins σ H' s2 ∧ RelV x u ∧ J.yld i H x H' ∧ tn (i + 1) s2.heap ∧ ∀ b ∈ fp, H' b = none) E s1) E s
  done : ∀ (X : Cx), X.prog = P → X.w = w → X.K = K → X.calm = true → ∀ (i : Nat) (pins : List (Addr × Obj)) (s : Shared) (σ : St) (H : Hp) (E : Value → Shared → Prop), Inv X pins σ H s → (∀ b ∈ fp, FpOk X pins H b) → tn i s.heap → J.stop i H →
    wpAny (model P w) X.A (pyNext (.ref it)) (fun r s1 => r = none ∧ Inv X pins σ H s1) E s
  self : ∀ (A : Around) (i : Nat) (s : Shared) (Q : Value → Shared → Prop) (E : Value → Shared → Prop), tn i s.heap → Q (.ref it) s → wpAny (model P w) A (pyIter (.ref it)) Q E s
noncomputable abbrev TI := St → Hp → (It → Hp → Prop) → Prop
/-- an iterator has come -/
noncomputable def PIE (X : Cx) (pins : List (Addr × Obj)) (σ : St) (tg : Expr) (R : It → Hp → Prop) (itv : Value) (s2 : Shared) : Prop :=
  ∃ (it : Addr) (fp : List Addr) (tn : Nat → Heap → Prop) (J : It) (H' : Hp), itv = .ref it ∧ Inv X pins σ H' s2 ∧ Turn X.prog X.w X.K tg J fp it tn ∧ tn 0 s2.heap ∧ (∀ b ∈ fp, FpOk X pins H' b) ∧ R J H'
noncomputable def PI (X : Cx) (tg iter : Expr) (wi : TI) : Prop :=
  ∀ (pins : List (Addr × Obj)) (s : Shared) (σ : St) (H : Hp) (R : It → Hp → Prop), Inv X pins σ H s → wi σ H R →
    wpAny (model X.prog X.w) X.A (eval iter X.env) (fun v s1 => wpAny (model X.prog X.w) X.A (pyIter v) (PIE X pins σ tg R) X.xe s1) X.xe s

/-- the step ahead of the store is nothing for an iterator that keeps no tuple -/
theorem go_of {M : Model} {A : Around} {E : Value → Shared → Prop} {s : Shared} {tg : Expr} {it : Addr} {u : Value} {o : Obj} {n : String} {vs : Array Value} {Q : Unit → Shared → Prop} (ho : s.heap.get? it = some o) (hc : o.cls = .type n) (hd : o.data = .fields vs)
    (hn : ["enumerate", "zip", "dict_itemiterator", "dict_reverseitemiterator", "odict_iterator", "itertools.zip_longest", "itertools.pairwise"].contains n = false) (hQ : Q () s) : wpAny M A (letOwnedTupleGo tg (.ref it) u) Q E s := by
  unfold letOwnedTupleGo
  cases tg <;> first
    | exact wpAny_pure hQ
    | (cases u <;> first
        | exact wpAny_pure hQ
        | (refine wpAny_bind (wpAny_load ho ?_)
           rw [hc, hd]
           show wpAny M A (if (["enumerate", "zip", "dict_itemiterator", "dict_reverseitemiterator", "odict_iterator", "itertools.zip_longest", "itertools.pairwise"].contains n && vs[0]? == some (rawInt _)) = true then _ else _) Q E s
           rw [if_neg (by intro h; rw [hn, Bool.false_and] at h; cases h)]
           exact wpAny_pure hQ))

/-- the list at a, as it stands at each turn (a loop may append to it) -/
noncomputable def Itl (K : PySem.W.Frag) (a : Addr) : It :=
  ⟨fun i H => ∃ xs x, SqL K H a xs ∧ xs[i]? = some x, fun i H x H' => H' = H ∧ ∀ xs, SqL K H a xs → xs[i]? = some x, fun i H => ∃ xs, SqL K H a xs ∧ xs.length ≤ i⟩
/-- lo, lo + 1, .. (n of them) -/
noncomputable def Itr (lo : Int) (n : Nat) : It := ⟨fun i _ => i < n, fun i H x H' => H' = H ∧ x = .int (lo + i), fun i _ => n ≤ i⟩
theorem turn_list {P : Program} {w : World} {K : PySem.W.Frag} {tg : Expr} (a it : Addr) : Turn P w K tg (Itl K a) [it] it (fun i h => h.IsListIter it a i) where
  mem := by simp
  obj := fun i h st b hb => by
    have e : b = it := by simpa using hb
    subst e
    obtain ⟨o, e, c, d⟩ := st
    exact ⟨o, e, fun v z => by rw [d] at z; cases z⟩
  keep := fun i h h' st k => st.at fun o e => k it (by simp) o e
  item := by
    intro X hP hw hK hc i pins s σ H E I hf st hg
    subst hP hw hK
    obtain ⟨xs, x, hq, hx⟩ := hg
    obtain ⟨its, rv, p, hz⟩ := I.list hq
    obtain ⟨u, hu, ru⟩ := rv.get hx
    obtain ⟨f0, f1, f2, f3, f4, f5⟩ := hf it (by simp)
    refine wpAny_pyNext_list_item st p.isList (x := u) (by simpa using hu) fun h' st' sb => ?_
    have I1 : Inv X pins σ H { s with heap := h' } := I.turned (t' := s.toks) (fun b o hb e => (sb.2 b hb).trans e) f0 f1 f3 f4 f5
    obtain ⟨o, e, c, d⟩ := id st'
    exact ⟨u, rfl, go_of (s := { s with heap := h' }) e c d (by decide) ⟨x, H, I1, ru, ⟨rfl, fun ys hy => by rw [I.list_inj hy hq]; exact hx⟩, st', fun b hb => (hf b hb).1⟩⟩
  done := by
    intro X hP hw hK hc i pins s σ H E I hf st hg
    subst hP hw hK
    obtain ⟨xs, hq, hx⟩ := hg
    obtain ⟨its, rv, p, hz⟩ := I.list hq
    obtain ⟨f0, f1, f2, f3, f4, f5⟩ := hf it (by simp)
    have hl := rv.length
    exact wpAny_pyNext_list_end (I.ok.hd hc) st p.isList (by simp; omega) fun h' eb => ⟨rfl, I.turned (t' := s.toks) (fun b o hb e => eb b o hb e) f0 f1 f3 f4 f5⟩
  self := fun _ _ _ _ _ st h => wpAny_pyIter_listiter st h
theorem turn_range {P : Program} {w : World} {K : PySem.W.Frag} {tg : Expr} (it : Addr) (lo : Int) (n : Nat) : Turn P w K tg (Itr lo n) [it] it (fun i h => IsRangeIter h it (lo + (i : Nat) * 1) ((n : Int) - (i : Nat)) 1) where
  mem := by simp
  obj := fun i h st b hb => by
    have e : b = it := by simpa using hb
    subst e
    exact ⟨_, st, fun v z => by
      have z' : Data.fields _ = Data.cell v := z
      cases z'⟩
  keep := fun i h h' st k => k it (by simp) _ st
  item := by
    intro X hP hw hK hc i pins s σ H E I hf st hg
    subst hP hw hK
    obtain ⟨f0, f1, f2, f3, f4, f5⟩ := hf it (by simp)
    have W := Walks.range (prog := X.prog) (w := X.w) (I.ok.hd hc) it lo 1 n
    refine W.item i s _ _ hg st fun v h' tk hv st' kk => ?_
    obtain ⟨t, rfl⟩ := hv
    have I1 : Inv X pins σ H { s with heap := h', toks := tk } := I.turned (fun b o hb e => kk b o (by simpa using hb) e) f0 f1 f3 f4 f5
    refine ⟨_, rfl, go_of (s := { s with heap := h', toks := tk }) (n := "range_iterator") st' rfl rfl (by decide) ⟨.int (lo + i), H, I1, ⟨t, ?_⟩, ⟨rfl, rfl⟩, st', fun b hb => (hf b hb).1⟩⟩
    rw [Int.mul_one]
  done := by
    intro X hP hw hK hc i pins s σ H E I hf st hg
    subst hP hw hK
    obtain ⟨f0, f1, f2, f3, f4, f5⟩ := hf it (by simp)
    exact wpAny_pyNext_range_end (I.ok.hd hc) st (by have : n ≤ i := hg; omega) fun h' eb => ⟨rfl, I.turned (t' := s.toks) (fun b o hb e => eb b o hb e) f0 f1 f3 f4 f5⟩
  self := fun _ _ _ _ _ st h => wpAny_pyIter_rangeiter st h
end L2

namespace L2
open PySem PySem.Spec PyProof.Rows
section
variable {X : Cx} {tg : Expr}
noncomputable def iList (K : PySem.W.Frag) (tl : TE) : TI := fun σ H R => tl σ H fun x H1 => ∃ a, x = .ref a ∧ (∃ xs, SqL K H1 a xs) ∧ R (Itl K a) H1
theorem pi_list {l : Expr} {tl : TE} (hl : PE X l tl) : PI X tg l (iList X.K tl) := by
  intro pins s σ H R I h
  refine thn (hl pins s σ H _ I h) fun v s1 ⟨x, H1, I1, r1, q1⟩ => ?_
  obtain ⟨a, e, ⟨xs, hq⟩, q⟩ := q1
  subst e
  cases r1
  obtain ⟨its, rv, p, hz⟩ := I1.list hq
  refine wpAny_pyIter_list p.isList ?_
  refine ⟨s1.heap.objs.size, [s1.heap.objs.size], _, _, H1, rfl, I1.kept (t' := s1.toks) fun b o e => Heap.get?_push_of_some _ e, turn_list a _, ⟨_, Heap.get?_push_size _ rfl, rfl, rfl⟩, fun b hb => ?_, q⟩
  have e : b = s1.heap.objs.size := by simpa using hb
  subst e
  exact I1.fpOk (Nat.le_refl _) (I1.hok.fresh (Nat.le_refl _))
/-- a range object just made, walked -/
theorem range_it {pins : List (Addr × Obj)} {σ : St} {H : Hp} {s : Shared} {R : It → Hp → Prop} {E : Value → Shared → Prop} {lo hi : Int} {t u v : Tok} {tk : Nat} (I : Inv X pins σ H s) (h1 : -(2 ^ 62) ≤ lo) (h2 : lo < 2 ^ 62) (h3 : -(2 ^ 62) ≤ hi) (h4 : hi < 2 ^ 62)
    (q : R (Itr lo (hi - lo).toNat) H) : wpAny (model X.prog X.w) X.A (pyIter (.ref s.heap.objs.size)) (PIE X pins σ tg R) E { s with heap := s.heap.push { cls := .type "range", data := .fields #[.int lo t, .int hi u, .int 1 v] }, toks := tk } := by
  refine wpAny_pyIter_range (IsRange.new ..) (small_one h1 h2 h3 h4) ?_
  have I1 : Inv X pins σ H { s with heap := s.heap.push { cls := .type "range", data := .fields #[.int lo t, .int hi u, .int 1 v] }, toks := tk } := I.kept fun b o e => Heap.get?_push_of_some _ e
  refine ⟨(s.heap.push { cls := .type "range", data := .fields #[.int lo t, .int hi u, .int 1 v] }).objs.size, [(s.heap.push { cls := .type "range", data := .fields #[.int lo t, .int hi u, .int 1 v] }).objs.size], _, _, H, rfl,
    I1.kept (t' := tk) fun b o e => Heap.get?_push_of_some _ e, turn_range _ lo (hi - lo).toNat, ?_, fun b hb => ?_, q⟩
  · have e1 : lo + ((0 : Nat) : Int) * 1 = lo := by simp
    have e2 : (((hi - lo).toNat : Nat) : Int) - ((0 : Nat) : Int) = Builtin.Range.rangeSize lo hi 1 := by rw [rangeSize_one]; split <;> omega
    show IsRangeIter _ _ (lo + ((0 : Nat) : Int) * 1) ((((hi - lo).toNat : Nat) : Int) - ((0 : Nat) : Int)) 1
    rw [e1, e2]
    exact Heap.get?_push_size _ rfl
  · have e : b = (s.heap.push { cls := .type "range", data := .fields #[.int lo t, .int hi u, .int 1 v] }).objs.size := by simpa using hb
    subst e
    exact I1.fpOk (Nat.le_refl _) (I1.hok.fresh (Nat.le_refl _))
noncomputable def iRng1 (ta : TA) : TI := fun σ H R => ta σ H fun vs H1 => ∃ j : Int, vs = [.int j] ∧ -(2 ^ 62) ≤ j ∧ j < 2 ^ 62 ∧ R (Itr 0 j.toNat) H1
theorem pi_range1 {a : Expr} {ta : TA} {p pos : Pos} (hg : Gl X "range") (hm : X.mg "range" = none) (ha : PA X [a] ta) (hs : starEach [a] X.env = [(false, eval a X.env)] := by rfl) : PI X tg (.Call (.Name "range" p) [a] [] pos) (iRng1 ta) := by
  intro pins s σ H R I h
  refine Call_ (ld_blt I hg hm boot_range (PyProof.Rows.callWith_type1 (thn (ha pos pins s σ H _ I h) fun us s1 ⟨vs, H1, I1, r1, q1⟩ => ?_) hs rfl))
  obtain ⟨j, e, q1, q2, q⟩ := q1
  subst e
  cases r1 with
  | cons r rr =>
    cases rr
    obtain ⟨t, rfl⟩ := r
    exact call_range_1 (range_it I1 (by omega) (by omega) q1 q2 (by simpa using q))
/-! ### for -/
/-- W: the invariant by the turn and a measure; N: what the body is to reach -/
noncomputable def tFor (wi : TI) (g : TG) (tb : TS) : TS := fun D σ H => wi σ H fun J H1 => ∃ W : Nat → Nat → St → Hp → Prop, (∃ m, W 0 m σ H1) ∧ ∀ i m σ H, W i m σ H →
  (J.stop i H ∧ D.nx σ H) ∨ (J.go i H ∧ ∃ N : St → Hp → Prop, (∀ σ' H', N σ' H' → ∃ m', m' < m ∧ W (i + 1) m' σ' H') ∧ ∀ x H', J.yld i H x H' → g x σ H' fun σ2 H2 => tb { D with nx := N, ct := N, bk := D.nx } σ2 H2)
/-- the records at fp as they stand -/
noncomputable def pinsAt (fp : List Addr) (h : Heap) : List (Addr × Obj) := fp.filterMap fun b => (h.get? b).map fun o => (b, o)
theorem mem_pinsAt {fp : List Addr} {h : Heap} {b : Addr} {o : Obj} (hb : b ∈ fp) (e : h.get? b = some o) : (b, o) ∈ pinsAt fp h := List.mem_filterMap.mpr ⟨b, hb, by rw [e]; rfl⟩
theorem of_pinsAt {fp : List Addr} {h : Heap} {p : Addr × Obj} (hp : p ∈ pinsAt fp h) : p.1 ∈ fp ∧ h.get? p.1 = some p.2 := by
  obtain ⟨b, hb, e⟩ := List.mem_filterMap.mp hp
  cases q : h.get? b with
  | none => rw [q] at e; cases e
  | some o =>
    rw [q] at e
    have e' : (b, o) = p := Option.some.inj e
    subst e'
    exact ⟨hb, q⟩
theorem Inv.pinned {pins : List (Addr × Obj)} {σ : St} {H : Hp} {s : Shared} {fp : List Addr} (I : Inv X pins σ H s) (hf : ∀ b ∈ fp, FpOk X pins H b) (ho : ∀ b ∈ fp, ∃ o, s.heap.get? b = some o ∧ ∀ v, o.data ≠ .cell v) : Inv X (pins ++ pinsAt fp s.heap) σ H s :=
  I.pins_of fun p hp => (List.mem_append.mp hp).elim (fun z => I.pin p (List.mem_append_right _ z)) fun z => by
    obtain ⟨hb, e⟩ := of_pinsAt z
    obtain ⟨f0, f1, f2, _⟩ := hf p.1 hb
    obtain ⟨o, e', d⟩ := ho p.1 hb
    rw [e] at e'; cases e'
    exact ⟨e, f0, f1, f2, d⟩
theorem Inv.unpinned {pins pl : List (Addr × Obj)} {σ : St} {H : Hp} {s : Shared} (I : Inv X (pins ++ pl) σ H s) : Inv X pins σ H s := I.pins_of fun p hp => I.pin p (List.mem_append_right _ (List.mem_append_left _ hp))
theorem ps_for {iter : Expr} {body : List Stmt} {wi : TI} {g : TG} {tb : TS} {pos : Pos} (hp : PassesOwn (model X.prog X.w) X.A X.env X.xe) (hc : X.calm = true) (hi : PI X tg iter wi) (hg : PG X tg g) (hb : PSs X body tb)
    (hs : ∀ x, foldedSetIterable iter X.env x = pure x := by intro _; rfl) : PS X (.For tg iter body [] pos) (tFor wi g tb) := by
  intro pins s σ H D I h
  refine wpAny_For (thn (hi pins s σ H _ I h) fun v s1 h1 => thn h1 fun itv s2 h2 => ?_) hs
  obtain ⟨it, fp, tn, J, H2, e, I2, T, st2, f2, W, ⟨m0, w0⟩, turn⟩ := h2
  subst e
  -- what stays true of the iterator's objects through the loop
  have stat : ∀ {H' : Hp}, (∀ b ∈ fp, H' b = none) → ∀ b ∈ fp, FpOk X pins H' b := fun hn b hb => ⟨hn b hb, (f2 b hb).2⟩
  refine codeAny_forLoop_any (fun n s' => ∃ i σ' H', Inv X pins σ' H' s' ∧ tn i s'.heap ∧ (∀ b ∈ fp, H' b = none) ∧ W i n σ' H') ?_ m0 ⟨0, σ, H2, I2, st2, fun b hb => (f2 b hb).1, w0⟩
  rintro n s3 ⟨i, σ3, H3, I3, st3, fr3, w3⟩
  rcases turn i n σ3 H3 w3 with ⟨stop, qn⟩ | ⟨go, N, hN, step⟩
  · refine wpAny_passesOwn hp (thn (T.done X rfl rfl rfl hc i pins s3 σ3 H3 X.xe I3 (stat fr3) st3 stop) fun r s4 ⟨hr, I4⟩ => ?_)
    subst hr
    exact wpAny_execs_nil ⟨σ3, H3, I4, qn⟩
  · refine wpAny_passesOwn hp (thn (T.item X rfl rfl rfl hc i pins s3 σ3 H3 X.xe I3 (stat fr3) st3 go) fun r s4 ⟨u, hr, h4⟩ => ?_)
    subst hr
    refine wpAny_passesOwn hp (thn h4 fun _ s5 ⟨x, H5, I5, r5, y5, st5, fr5⟩ => ?_)
    have I5' := I5.pinned (stat fr5) (T.obj _ _ st5)
    refine wpAny_passesOwn hp (thn (hg _ s5 σ3 H5 x u _ I5' r5 (step x H5 y5)) fun _ s6 ⟨σ6, H6, I6, q6⟩ => ?_)
    refine wpAny_passesOwn hp (thn (hb _ s6 σ6 H6 _ I6 q6) fun f s7 q7 => ?_)
    have again : ∀ {σ7 : St} {H7 : Hp}, Inv X (pins ++ pinsAt fp s5.heap) σ7 H7 s7 → N σ7 H7 → ∃ m, m < n ∧ ∃ i σ' H', Inv X pins σ' H' s7 ∧ tn i s7.heap ∧ (∀ b ∈ fp, H' b = none) ∧ W i m σ' H' := fun {σ7 H7} I7 n7 => by
      obtain ⟨m', hm, w7⟩ := hN σ7 H7 n7
      refine ⟨m', hm, i + 1, σ7, H7, I7.unpinned, T.keep _ _ _ st5 fun b hb o e => (I7.pin (b, o) (List.mem_append_right _ (List.mem_append_right _ (mem_pinsAt hb e)))).1, fun b hb => ?_, w7⟩
      obtain ⟨o, e, d⟩ := T.obj _ _ st5 b hb
      exact (I7.pin (b, o) (List.mem_append_right _ (List.mem_append_right _ (mem_pinsAt hb e)))).2.1
    cases f with
    | next => obtain ⟨σ7, H7, I7, n7⟩ := q7; exact again I7 n7
    | cont => obtain ⟨σ7, H7, I7, n7⟩ := q7; exact again I7 n7
    | brk => obtain ⟨σ7, H7, I7, q7⟩ := q7; exact ⟨σ7, H7, I7.unpinned, q7⟩
    | ret v => obtain ⟨x7, σ7, H7, I7, r7, q7⟩ := q7; exact ⟨x7, σ7, H7, I7.unpinned, r7, q7⟩
end

/-! ### the forms one uses -/
/-- over a list that the body leaves as it is -/
theorem for_list {K : PySem.W.Frag} {a : Addr} {xs : List V} {g : TG} {tb : TS} {D : Ends} {σ : St} {H : Hp} (Pv : Nat → St → Hp → Prop) (h0 : Pv 0 σ H) (hl : ∀ i σ H, i ≤ xs.length → Pv i σ H → SqL K H a xs)
    (hs : ∀ i x σ H, xs[i]? = some x → Pv i σ H → g x σ H fun σ2 H2 => tb { D with nx := Pv (i + 1), ct := Pv (i + 1), bk := D.nx } σ2 H2) (hd : ∀ σ H, Pv xs.length σ H → D.nx σ H) :
    ∃ W : Nat → Nat → St → Hp → Prop, (∃ m, W 0 m σ H) ∧ ∀ i m σ H, W i m σ H →
      ((Itl K a).stop i H ∧ D.nx σ H) ∨ ((Itl K a).go i H ∧ ∃ N : St → Hp → Prop, (∀ σ' H', N σ' H' → ∃ m', m' < m ∧ W (i + 1) m' σ' H') ∧ ∀ x H', (Itl K a).yld i H x H' → g x σ H' fun σ2 H2 => tb { D with nx := N, ct := N, bk := D.nx } σ2 H2) := by
  refine ⟨fun i m σ H => m = xs.length - i ∧ i ≤ xs.length ∧ Pv i σ H, ⟨xs.length, by simp, Nat.zero_le _, h0⟩, ?_⟩
  rintro i m σ H ⟨rfl, hi, p⟩
  have q := hl i σ H hi p
  by_cases hlt : i < xs.length
  · refine .inr ⟨⟨xs, xs[i], q, by simp [hlt]⟩, Pv (i + 1), fun σ' H' p' => ⟨xs.length - (i + 1), by omega, rfl, hlt, p'⟩, fun x H' y => ?_⟩
    obtain ⟨e, y⟩ := y
    subst e
    exact hs i x σ _ (y xs q) p
  · have e : i = xs.length := by omega
    subst e
    exact .inl ⟨⟨xs, q, Nat.le_refl _⟩, hd σ H p⟩
theorem for_range {lo : Int} {n : Nat} {g : TG} {tb : TS} {D : Ends} {σ : St} {H : Hp} (Pv : Nat → St → Hp → Prop) (h0 : Pv 0 σ H)
    (hs : ∀ i σ H, i < n → Pv i σ H → g (.int (lo + i)) σ H fun σ2 H2 => tb { D with nx := Pv (i + 1), ct := Pv (i + 1), bk := D.nx } σ2 H2) (hd : ∀ σ H, Pv n σ H → D.nx σ H) :
    ∃ W : Nat → Nat → St → Hp → Prop, (∃ m, W 0 m σ H) ∧ ∀ i m σ H, W i m σ H →
      ((Itr lo n).stop i H ∧ D.nx σ H) ∨ ((Itr lo n).go i H ∧ ∃ N : St → Hp → Prop, (∀ σ' H', N σ' H' → ∃ m', m' < m ∧ W (i + 1) m' σ' H') ∧ ∀ x H', (Itr lo n).yld i H x H' → g x σ H' fun σ2 H2 => tb { D with nx := N, ct := N, bk := D.nx } σ2 H2) := by
  refine ⟨fun i m σ H => m = n - i ∧ i ≤ n ∧ Pv i σ H, ⟨n, by simp, Nat.zero_le _, h0⟩, ?_⟩
  rintro i m σ H ⟨rfl, hi, p⟩
  by_cases hlt : i < n
  · refine .inr ⟨hlt, Pv (i + 1), fun σ' H' p' => ⟨n - (i + 1), by omega, rfl, hlt, p'⟩, fun x H' y => ?_⟩
    obtain ⟨e, y⟩ := y
    subst e y
    exact hs i σ _ hlt p
  · have e : i = n := by omega
    subst e
    exact .inl ⟨Nat.le_refl _, hd σ H p⟩
/-- while, by a word and a measure of the state -/
theorem while_by {c : TT} {tb : TS} {D : Ends} {σ : St} {H : Hp} (Pv : St → Hp → Prop) (μ : St → Hp → Nat) (h0 : Pv σ H)
    (hs : ∀ σ H, Pv σ H → c σ H fun b H1 => if b = true then tb { D with nx := fun σ' H' => Pv σ' H' ∧ μ σ' H' < μ σ H, ct := fun σ' H' => Pv σ' H' ∧ μ σ' H' < μ σ H, bk := D.nx } σ H1 else D.nx σ H1)
    (mono : ∀ σ H Q Q', (∀ b H1, Q b H1 → Q' b H1) → c σ H Q → c σ H Q') : tWhile c tb D σ H := by
  refine ⟨fun m σ H => m = μ σ H ∧ Pv σ H, ⟨_, rfl, h0⟩, ?_⟩
  rintro m σ H ⟨rfl, p⟩
  refine mono σ H _ _ (fun b H1 q => ?_) (hs σ H p)
  cases b with
  | true => exact ⟨_, fun σ' H' ⟨p', l⟩ => ⟨_, l, rfl, p'⟩, q⟩
  | false => exact q
end L2

namespace L2
open PySem PySem.Spec PyProof.Rows

noncomputable abbrev R2 := V → V → Hp → VK → Prop
/-- a two-place operation on values: f is binaryOp op, inplaceOp op or compareOp op -/
noncomputable def OpR (X : Cx) (f : Value → Value → Sem Value) (r : R2) : Prop :=
  ∀ (pins : List (Addr × Obj)) (s : Shared) (σ : St) (H : Hp) (x y : V) (v u : Value) (Q : VK), Inv X pins σ H s → RelV x v → RelV y u → r x y H Q →
    wpAny (model X.prog X.w) X.A (f v u) (EP X pins σ Q) X.xe s
/-- a one-place operation -/
noncomputable def UnR (X : Cx) (f : Value → Sem Value) (r : V → Hp → VK → Prop) : Prop :=
  ∀ (pins : List (Addr × Obj)) (s : Shared) (σ : St) (H : Hp) (x : V) (v : Value) (Q : VK), Inv X pins σ H s → RelV x v → r x H Q →
    wpAny (model X.prog X.w) X.A (f v) (EP X pins σ Q) X.xe s
/-- a call of a value that is known (a builtin, a type) with values -/
noncomputable def CallR (X : Cx) (f : Value) (r : List V → Hp → VK → Prop) : Prop :=
  ∀ (pins : List (Addr × Obj)) (s : Shared) (σ : St) (H : Hp) (xs : List V) (us : List Value) (Q : VK), Inv X pins σ H s → Vals xs us → r xs H Q →
    wpAny (model X.prog X.w) X.A (call f us) (EP X pins σ Q) X.xe s
/-- a value's truth -/
noncomputable def TruR (X : Cx) (r : V → Hp → (Bool → Hp → Prop) → Prop) : Prop :=
  ∀ (pins : List (Addr × Obj)) (s : Shared) (σ : St) (H : Hp) (x : V) (v : Value) (Q : Bool → Hp → Prop), Inv X pins σ H s → RelV x v → r x H Q →
    wpAny (model X.prog X.w) X.A (truthy v) (TP X pins σ Q) X.xe s

noncomputable def tOp (r : R2) (ta tb : TE) : TE := fun σ H Q => ta σ H fun x H1 => tb σ H1 fun y H2 => r x y H2 Q
noncomputable def tUn (r : V → Hp → VK → Prop) (ta : TE) : TE := fun σ H Q => ta σ H fun x H1 => r x H1 Q
/-- ints in, under C, and a value out -/
noncomputable def rI (C : Int → Int → Prop) (g : Int → Int → V) : R2 := fun x y H Q => ∃ i j, x = .int i ∧ y = .int j ∧ C i j ∧ Q (g i j) H
noncomputable def rI0 (g : Int → Int → V) : R2 := fun x y H Q => ∃ i j, x = .int i ∧ y = .int j ∧ Q (g i j) H
noncomputable def rU (g : Int → V) : V → Hp → VK → Prop := fun x H Q => ∃ i, x = .int i ∧ Q (g i) H

section
variable {X : Cx} {a b c : Expr} {ta tb tc : TE} {pos : Pos}

theorem binT (ha : PE X a ta) (hb : PE X b tb) {pins : List (Addr × Obj)} {s : Shared} {σ : St} {H : Hp} {R : V → V → Hp → Prop} (I : Inv X pins σ H s)
    (h : ta σ H fun x H1 => tb σ H1 fun y H2 => R x y H2) {Q : Value → Shared → Prop} {f : Value → Value → Sem Value}
    (hf : ∀ v u s2 x y H2, Inv X pins σ H2 s2 → RelV x v → RelV y u → R x y H2 → wpAny (model X.prog X.w) X.A (f v u) Q X.xe s2) :
    wpAny (model X.prog X.w) X.A (eval a X.env) (fun v s₁ => wpAny (model X.prog X.w) X.A (eval b X.env) (fun u s₂ => wpAny (model X.prog X.w) X.A (f v u) Q X.xe s₂) X.xe s₁) X.xe s := by
  refine thn (ha pins s σ H _ I h) fun v s1 ⟨x, H1, I1, r1, q1⟩ => ?_
  refine thn (hb pins s1 σ H1 _ I1 q1) fun u s2 ⟨y, H2, I2, r2, q2⟩ => ?_
  exact hf v u s2 x y H2 I2 r1 r2 q2

theorem pe_op {op : Operator} {r : R2} (ho : OpR X (binaryOp op) r) (ha : PE X a ta) (hb : PE X b tb) : PE X (.BinOp a op b pos) (tOp r ta tb) := by
  intro pins s σ H Q I h
  exact wpAny_BinOp (binT ha hb I h fun v u s2 x y H2 I2 rx ry q => ho pins s2 σ H2 x y v u Q I2 rx ry q)
theorem pe_un {op : UnaryOp} {r : V → Hp → VK → Prop} (ho : UnR X (unaryOp op) r) (ha : PE X a ta) : PE X (.UnaryOp op a pos) (tUn r ta) := by
  intro pins s σ H Q I h
  exact UnaryOp_ (thn (ha pins s σ H _ I h) fun v s1 ⟨x, H1, I1, r1, q1⟩ => ho pins s1 σ H1 x v Q I1 r1 q1)
/-! ### ints -/
theorem opI {f : Value → Value → Sem Value} {C : Int → Int → Prop} {g : Int → Int → Int}
    (rule : ∀ (i j : Int) (t u : Tok) (s : Shared) (Q : Value → Shared → Prop) (E : Value → Shared → Prop), C i j → Q (.int (g i j) s.toks) { s with toks := s.toks + 1 } → wpAny (model X.prog X.w) X.A (f (.int i t) (.int j u)) Q E s) :
    OpR X f (rI C fun i j => .int (g i j)) := by
  intro pins s σ H x y v u Q I rx ry h
  obtain ⟨i, j, rfl, rfl, hc, q⟩ := h
  obtain ⟨t, rfl⟩ := rx
  obtain ⟨t', rfl⟩ := ry
  exact rule i j t t' s _ _ hc ⟨.int (g i j), H, I.tok _, ⟨_, rfl⟩, q⟩
theorem opI0 {f : Value → Value → Sem Value} {g : Int → Int → Int}
    (rule : ∀ (i j : Int) (t u : Tok) (s : Shared) (Q : Value → Shared → Prop) (E : Value → Shared → Prop), Q (.int (g i j) s.toks) { s with toks := s.toks + 1 } → wpAny (model X.prog X.w) X.A (f (.int i t) (.int j u)) Q E s) :
    OpR X f (rI0 fun i j => .int (g i j)) := by
  intro pins s σ H x y v u Q I rx ry h
  obtain ⟨i, j, rfl, rfl, q⟩ := h
  obtain ⟨t, rfl⟩ := rx
  obtain ⟨t', rfl⟩ := ry
  exact rule i j t t' s _ _ ⟨.int (g i j), H, I.tok _, ⟨_, rfl⟩, q⟩
theorem opB0 {f : Value → Value → Sem Value} {g : Int → Int → Bool}
    (rule : ∀ (i j : Int) (t u : Tok) (s : Shared) (Q : Value → Shared → Prop) (E : Value → Shared → Prop), Q (.bool (g i j)) s → wpAny (model X.prog X.w) X.A (f (.int i t) (.int j u)) Q E s) :
    OpR X f (rI0 fun i j => .bl (g i j)) := by
  intro pins s σ H x y v u Q I rx ry h
  obtain ⟨i, j, rfl, rfl, q⟩ := h
  obtain ⟨t, rfl⟩ := rx
  obtain ⟨t', rfl⟩ := ry
  exact rule i j t t' s _ _ ⟨.bl (g i j), H, I, rfl, q⟩

noncomputable def CDiv (i j : Int) : Prop := 0 < j ∧ j < 1073741824
noncomputable def CPow (i j : Int) : Prop := 0 ≤ j ∧ j ≤ 1000000 ∧ i.natAbs < 2 ^ 64
noncomputable def CMul (i j : Int) : Prop := (-(2 ^ 64) < i ∧ i < 2 ^ 64) ∨ (-(2 ^ 64) < j ∧ j < 2 ^ 64)
theorem CMul.ok {i j : Int} (h : CMul i j) : IntMulOk i j := by
  rcases h with ⟨h1, h2⟩ | ⟨h1, h2⟩
  · exact .of_left (intBits_le_64 h1 h2)
  · exact .of_right (intBits_le_64 h1 h2)
theorem op_add : OpR X (binaryOp .Add) (rI0 fun i j => .int (i + j)) := opI0 fun _ _ _ _ _ _ _ q => add_int q
theorem op_sub : OpR X (binaryOp .Sub) (rI0 fun i j => .int (i - j)) := opI0 fun _ _ _ _ _ _ _ q => sub_int q
theorem op_mul : OpR X (binaryOp .Mult) (rI CMul fun i j => .int (i * j)) := opI fun _ _ _ _ _ _ _ hc q => mul_int q hc.ok
/-- // by a positive divisor -/
theorem op_fdiv : OpR X (binaryOp .FloorDiv) (rI CDiv fun i j => .int (i / j)) := opI fun i j _ _ _ _ _ hc q => by
  have h1 : (0 : Int) < j := hc.1
  have h2 : j < 1073741824 := hc.2
  exact floordiv_int (by omega) (by rw [Int.fdiv_eq_ediv_of_nonneg i (by omega)]; exact q) (.inl (PyProof.noPylong_small (by omega)))
/-- % by a positive divisor of any size -/
theorem op_mod : OpR X (binaryOp .Mod) (rI (fun _ j => 0 < j) fun i j => .int (i % j)) := opI fun i j _ _ _ _ _ hc q => by
  have h1 : (0 : Int) < j := hc
  exact mod_int' (by omega) (by rw [Int.fmod_eq_emod_of_nonneg i (by omega)]; exact q)
theorem op_pow : OpR X (binaryOp .Pow) (rI CPow fun i j => .int (i ^ j.toNat)) := opI fun _ _ _ _ _ _ _ hc q => pow_int_small hc.1 hc.2.1 hc.2.2 q
theorem unI {f : Value → Sem Value} {g : Int → Int}
    (rule : ∀ (i : Int) (t : Tok) (s : Shared) (Q : Value → Shared → Prop) (E : Value → Shared → Prop), Q (.int (g i) s.toks) { s with toks := s.toks + 1 } → wpAny (model X.prog X.w) X.A (f (.int i t)) Q E s) :
    UnR X f (rU fun i => .int (g i)) := by
  intro pins s σ H x v Q I rx h
  obtain ⟨i, rfl, q⟩ := h
  obtain ⟨t, rfl⟩ := rx
  exact rule i t s _ _ ⟨.int (g i), H, I.tok _, ⟨_, rfl⟩, q⟩
theorem un_neg : UnR X (unaryOp .USub) (rU fun i => .int (-i)) := unI fun _ _ _ _ _ q => neg_int q
/-! ### bools among ints: n += (a < b) -/
end

/-! ### comparisons -/
/-- the scalars that == tells apart as data does -/
noncomputable def scal : V → V → Bool
  | .non, .non => true | .non, .int _ => true | .int _, .non => true | .non, .bl _ => true | .bl _, .non => true | .non, .str _ => true | .str _, .non => true
  | .int _, .int _ => true | .bl _, .bl _ => true | .str _, .str _ => true | .byt _, .byt _ => true
  | .int _, .str _ => true | .str _, .int _ => true | .bl _, .str _ => true | .str _, .bl _ => true
  | _, _ => false
noncomputable def rEq : R2 := fun x y H Q => scal x y = true ∧ Q (.bl (decide (x = y))) H
noncomputable def rNe : R2 := fun x y H Q => scal x y = true ∧ Q (.bl (!decide (x = y))) H

theorem dec_int {i j : Int} : decide (V.int i = V.int j) = (i == j) := by
  rw [Bool.eq_iff_iff]
  simp
theorem dec_bl {i j : Bool} : decide (V.bl i = V.bl j) = (i == j) := by
  rw [Bool.eq_iff_iff]
  simp
theorem dec_str {i j : Str} : decide (V.str i = V.str j) = (i == j) := by
  rw [Bool.eq_iff_iff]
  simp
theorem dec_byt {i j : Array UInt8} : decide (V.byt i = V.byt j) = (i.toList == j.toList) := by
  rw [Bool.eq_iff_iff]
  cases i
  cases j
  simp

section
variable {X : Cx} {a b c : Expr} {ta tb tc : TE} {pos : Pos}
theorem fin_bl {pins : List (Addr × Obj)} {σ : St} {H : Hp} {s : Shared} {Q : VK} {k k' : Bool} (I : Inv X pins σ H s) (q : Q (.bl k) H) (e : k = k') : EP X pins σ Q (.bool k') s := by
  subst e
  exact ⟨.bl k, H, I, rfl, q⟩
theorem op_eq : OpR X (compareOp .Eq) rEq := by
  intro pins s σ H x y v u Q I rx ry h
  obtain ⟨hs, q⟩ := h
  cases x with
  | non =>
    cases rx
    cases y with
    | non => cases ry; exact PySem.EqNone.eq_none_none (fin_bl I q (by simp))
    | bl j => cases ry; exact PySem.EqNone.eq_none_bool (fin_bl I q (by simp))
    | int j => obtain ⟨t', rfl⟩ := ry; exact PySem.EqNone.eq_none_int (fin_bl I q (by simp))
    | str j => obtain ⟨t', rfl⟩ := ry; exact PySem.EqNone.eq_none_str (fin_bl I q (by simp))
    | _ => exact absurd (show false = true from hs) Bool.false_ne_true
  | bl i =>
    cases rx
    cases y with
    | non => cases ry; exact PySem.EqNone.eq_bool_none (fin_bl I q (by simp))
    | bl j => cases ry; exact eq_bool (fin_bl I q dec_bl)
    | str j => obtain ⟨t', rfl⟩ := ry; exact PySem.EqMixed.eq_bool_str (fin_bl I q (by simp))
    | _ => exact absurd (show false = true from hs) Bool.false_ne_true
  | int i =>
    obtain ⟨t, rfl⟩ := rx
    cases y with
    | non => cases ry; exact PySem.EqNone.eq_int_none (fin_bl I q (by simp))
    | int j => obtain ⟨t', rfl⟩ := ry; exact eq_int (fin_bl I q dec_int)
    | str j => obtain ⟨t', rfl⟩ := ry; exact PySem.EqMixed.eq_int_str (fin_bl I q (by simp))
    | _ => exact absurd (show false = true from hs) Bool.false_ne_true
  | str i =>
    obtain ⟨t, rfl⟩ := rx
    cases y with
    | non => cases ry; exact PySem.EqNone.eq_str_none (fin_bl I q (by simp))
    | bl j => cases ry; exact PySem.EqMixed.eq_str_bool (fin_bl I q (by simp))
    | int j => obtain ⟨t', rfl⟩ := ry; exact PySem.EqMixed.eq_str_int (fin_bl I q (by simp))
    | str j => obtain ⟨t', rfl⟩ := ry; exact eq_str (fin_bl I q dec_str)
    | _ => exact absurd (show false = true from hs) Bool.false_ne_true
  | byt i =>
    obtain ⟨t, rfl⟩ := rx
    cases y with
    | byt j => obtain ⟨t', rfl⟩ := ry; exact PySem.W.eq_bytes (fin_bl I q dec_byt)
    | _ => exact absurd (show false = true from hs) Bool.false_ne_true
  | _ => cases y <;> exact absurd (show false = true from hs) Bool.false_ne_true
theorem op_ne : OpR X (compareOp .NotEq) rNe := by
  intro pins s σ H x y v u Q I rx ry h
  obtain ⟨hs, q⟩ := h
  cases x with
  | non =>
    cases rx
    cases y with
    | non => cases ry; exact PySem.EqNone.ne_none_none (fin_bl I q (by simp))
    | bl j => cases ry; exact PySem.EqNone.ne_none_bool (fin_bl I q (by simp))
    | int j => obtain ⟨t', rfl⟩ := ry; exact PySem.EqNone.ne_none_int (fin_bl I q (by simp))
    | str j => obtain ⟨t', rfl⟩ := ry; exact PySem.EqNone.ne_none_str (fin_bl I q (by simp))
    | _ => exact absurd (show false = true from hs) Bool.false_ne_true
  | bl i =>
    cases rx
    cases y with
    | non => cases ry; exact PySem.EqNone.ne_bool_none (fin_bl I q (by simp))
    | bl j => cases ry; exact ne_bool (fin_bl I q (congrArg not dec_bl))
    | str j => obtain ⟨t', rfl⟩ := ry; exact PySem.EqMixed.ne_bool_str (fin_bl I q (by simp))
    | _ => exact absurd (show false = true from hs) Bool.false_ne_true
  | int i =>
    obtain ⟨t, rfl⟩ := rx
    cases y with
    | non => cases ry; exact PySem.EqNone.ne_int_none (fin_bl I q (by simp))
    | int j => obtain ⟨t', rfl⟩ := ry; exact ne_int (fin_bl I q (congrArg not dec_int))
    | str j => obtain ⟨t', rfl⟩ := ry; exact PySem.EqMixed.ne_int_str (fin_bl I q (by simp))
    | _ => exact absurd (show false = true from hs) Bool.false_ne_true
  | str i =>
    obtain ⟨t, rfl⟩ := rx
    cases y with
    | non => cases ry; exact PySem.EqNone.ne_str_none (fin_bl I q (by simp))
    | bl j => cases ry; exact PySem.EqMixed.ne_str_bool (fin_bl I q (by simp))
    | int j => obtain ⟨t', rfl⟩ := ry; exact PySem.EqMixed.ne_str_int (fin_bl I q (by simp))
    | str j => obtain ⟨t', rfl⟩ := ry; exact ne_str (fin_bl I q (congrArg not dec_str))
    | _ => exact absurd (show false = true from hs) Bool.false_ne_true
  | byt i =>
    obtain ⟨t, rfl⟩ := rx
    cases y with
    | byt j => obtain ⟨t', rfl⟩ := ry; exact PySem.W.ne_bytes (fin_bl I q (congrArg not dec_byt))
    | _ => exact absurd (show false = true from hs) Bool.false_ne_true
  | _ => cases y <;> exact absurd (show false = true from hs) Bool.false_ne_true

theorem op_lt : OpR X (compareOp .Lt) (rI0 fun i j => .bl (decide (i < j))) := opB0 fun _ _ _ _ _ _ _ q => lt_int q
theorem op_gt : OpR X (compareOp .Gt) (rI0 fun i j => .bl (decide (j < i))) := opB0 fun _ _ _ _ _ _ _ q => gt_int q
theorem op_ge : OpR X (compareOp .GtE) (rI0 fun i j => .bl (decide (j ≤ i))) := opB0 fun _ _ _ _ _ _ _ q => ge_int q
theorem nomark (b : Expr) {op : CmpOp} (h : op ≠ .In := by decide) (h2 : op ≠ .NotIn := by decide) : behindInMarks op b = false := by
  have e1 : (op == CmpOp.In) = false := by cases op <;> first | rfl | exact absurd rfl h
  have e2 : (op == CmpOp.NotIn) = false := by cases op <;> first | rfl | exact absurd rfl h2
  cases b <;> simp [behindInMarks, e1, e2]
/-- a comparison as a value; hm: nomark b, or (for in, not in) by with_unfolding_all rfl -/
theorem pe_cmpR {op : CmpOp} {r : R2} (ho : OpR X (compareOp op) r) (ha : PE X a ta) (hb : PE X b tb) (hm : behindInMarks op b = false) : PE X (.Compare a [op] [b] pos) (tOp r ta tb) := by
  intro pins s σ H Q I h
  exact wpAny_Compare1 (binT ha hb I h fun v u s2 x y H2 I2 rx ry q => ho pins s2 σ H2 x y v u Q I2 rx ry q) hm
/-- a reading of a value as a test -/
noncomputable def tTest (t : TE) : TT := fun σ H Q => t σ H fun x H' => ∃ k, x = .bl k ∧ Q k H'
theorem pt_cmpR {op : CmpOp} {r : R2} (ho : OpR X (compareOp op) r) (ha : PE X a ta) (hb : PE X b tb) (hm : behindInMarks op b = false) : PT X (.Compare a [op] [b] pos) (tTest (tOp r ta tb)) := by
  intro pins s σ H Q I h
  refine wpAny_isTrue_Compare1 (thn (ha pins s σ H _ I h) fun v s1 ⟨x, H1, I1, r1, q1⟩ => thn (hb pins s1 σ H1 _ I1 q1) fun u s2 ⟨y, H2, I2, r2, q2⟩ =>
    thn (ho pins s2 σ H2 x y v u _ I2 r1 r2 q2) fun c s3 ⟨z, H3, I3, r3, k, e, q3⟩ => ?_) hm
  subst e
  cases r3
  exact wpAny_truthy_bool ⟨H3, I3, q3⟩
/-! ### truth -/
/-- a value's truth by the abstract heap -/
noncomputable def TruV (K : PySem.W.Frag) (x : V) (H : Hp) (k : Bool) : Prop :=
  match x with
  | .non => k = false
  | .bl b => k = b
  | .int i => k = (i != 0)
  | .str y => y.length ≤ sizeLine ∧ k = ((y.length : Int) != 0)
  | .byt y => y.size ≤ sizeLine ∧ k = ((y.size : Int) != 0)
  | .ref p => (∃ xs, SqL K H p xs ∧ k = !xs.isEmpty) ∨ (∃ xs, SqT K H p xs ∧ k = !xs.isEmpty) ∨ ∃ kvs, H p = some (.dK kvs) ∧ k = !kvs.isEmpty
  | _ => False
theorem isEmpty_kv {κ : Type} {kvs : List (κ × V)} {vs : List (κ × Value)} (r : KV kvs vs) : (!vs.isEmpty) = !kvs.isEmpty := by
  cases r <;> rfl
theorem isEmpty_of {xs : List V} {its : List Value} (r : Vals xs its) : (!its.toArray.isEmpty) = !xs.isEmpty := by
  cases r <;> simp
theorem line63 : (sizeLine : Nat) < 2 ^ 63 := by rw [sizeLine_eq]; decide
theorem tru_ok : TruR X (fun x H Q => ∃ k, TruV X.K x H k ∧ Q k H) := by
  intro pins s σ H x v Q I rx h
  obtain ⟨k, e, q⟩ := h
  have hl := line63
  have hs : sizeLine = 16777216 := sizeLine_eq
  cases x with
  | non =>
    cases rx
    have e' : k = false := e
    subst e'
    exact truthy_none ⟨H, I, q⟩
  | bl b =>
    cases rx
    have e' : k = b := e
    subst e'
    exact wpAny_truthy_bool ⟨H, I, q⟩
  | int i =>
    obtain ⟨t, rfl⟩ := rx
    have e' : k = (i != 0) := e
    subst e'
    exact PySem.P.truthy_int ⟨H, I, q⟩
  | str y =>
    obtain ⟨t, rfl⟩ := rx
    obtain ⟨hy, e'⟩ : y.length ≤ sizeLine ∧ k = ((y.length : Int) != 0) := e
    subst e'
    exact PySem.P.truthy_str (by omega) ⟨H, I.tok _, q⟩
  | byt y =>
    obtain ⟨t, rfl⟩ := rx
    obtain ⟨hy, e'⟩ : y.size ≤ sizeLine ∧ k = ((y.size : Int) != 0) := e
    subst e'
    exact PySem.W.truthy_bytes (by omega) ⟨H, I.tok _, q⟩
  | ref p =>
    cases rx
    have e' : (∃ xs, SqL X.K H p xs ∧ k = !xs.isEmpty) ∨ (∃ xs, SqT X.K H p xs ∧ k = !xs.isEmpty) ∨ ∃ kvs, H p = some (.dK kvs) ∧ k = !kvs.isEmpty := e
    rcases e' with ⟨xs, hx, e'⟩ | ⟨xs, hx, e'⟩ | ⟨kvs, hx, e'⟩
    · subst e'
      obtain ⟨its, r, pl, hz⟩ := I.list hx
      have hlen := r.length
      exact wpAny_truthy_list pl.isList (by simp only [List.size_toArray]; omega) ⟨H, I.tok _, by rw [isEmpty_of r]; exact q⟩
    · subst e'
      obtain ⟨its, r, pl, hz⟩ := I.tuple hx
      have hlen := r.length
      exact truthy_tuple pl (by simp only [List.size_toArray]; omega) ⟨H, I.tok _, by rw [isEmpty_of r]; exact q⟩
    · subst e'
      obtain ⟨hz, hS, vs, r, m⟩ : kvs.length ≤ sizeLine ∧ (p == sysModules) = false ∧ ∃ vs, KV kvs vs ∧ s.heap.DictOf (mixKind X.prog X.w) p vs := I.hok p _ hx
      have hlen : kvs.length = vs.length := Paired.length r
      exact wpAny_truthy_dict hS m (by omega) ⟨H, I.tok _, by rw [isEmpty_kv r]; exact q⟩
  | _ => exact (show False from e).elim
/-- any expression whose test is its value's truth (a name, a call, a subscript, a field ..: he by fun _ => rfl) -/
theorem pt_truth (ha : PE X a ta) (he : ∀ whole, isTrue a X.env whole = (do let v ← whole; standAt a.pos; holding [v] (truthy v))) :
    PT X a (fun σ H Q => ta σ H fun x H' => ∃ k, TruV X.K x H' k ∧ Q k H') := by
  intro pins s σ H Q I h
  exact isTrue_plain (thn (ha pins s σ H _ I h) fun v s1 ⟨x, H1, I1, r1, q1⟩ => tru_ok pins s1 σ H1 x v Q I1 r1 q1) (he _)

/-! ### strs and bytes -/
theorem op_add_str : OpR X (binaryOp .Add) (fun x y H Q => ∃ i j, x = .str i ∧ y = .str j ∧ i.length + j.length ≤ sizeLine ∧ Q (.str (i ++ j)) H) := by
  intro pins s σ H x y v u Q I rx ry h
  obtain ⟨i, j, rfl, rfl, hz, q⟩ := h
  obtain ⟨t, rfl⟩ := rx
  obtain ⟨t', rfl⟩ := ry
  exact add_str (fun t' tk => ⟨.str (i ++ j), H, I.tok _, ⟨_, rfl⟩, q⟩) hz
/-! ### scalar builtins, by CallR -/
theorem vals1 {x : V} {us : List Value} (r : Vals [x] us) : ∃ u, us = [u] ∧ RelV x u := by
  cases r with
  | cons r1 r2 => cases r2; exact ⟨_, rfl, r1⟩
theorem vals2 {x y : V} {us : List Value} (r : Vals [x, y] us) : ∃ u w', us = [u, w'] ∧ RelV x u ∧ RelV y w' := by
  cases r with
  | cons r1 r2 =>
    cases r2 with
    | cons r3 r4 => cases r4; exact ⟨_, _, rfl, r1, r3⟩
theorem call_abs : CallR X (.builtin "abs") (fun xs H Q => ∃ i, xs = [.int i] ∧ Q (.int (if i < 0 then -i else i)) H) := by
  intro pins s σ H xs us Q I r h
  obtain ⟨i, rfl, q⟩ := h
  obtain ⟨u, rfl, t, rfl⟩ := vals1 r
  exact call_abs_int fun u tk => ⟨.int (if i < 0 then -i else i), H, I.tok _, ⟨_, rfl⟩, q⟩
theorem call_min2 (hc : X.calm = true) : CallR X (.builtin "min") (fun xs H Q => ∃ i j, xs = [.int i, .int j] ∧ Q (.int (if j < i then j else i)) H) := by
  intro pins s σ H xs us Q I r h
  obtain ⟨i, j, rfl, q⟩ := h
  obtain ⟨u, w', rfl, ⟨t, rfl⟩, ⟨t', rfl⟩⟩ := vals2 r
  refine min_two_ints (I.ok.hd hc) fun h' tk k => ⟨_, H, I.kept k, ?_, q⟩
  by_cases hj : j < i
  · rw [if_pos hj, if_pos hj]; exact ⟨_, rfl⟩
  · rw [if_neg hj, if_neg hj]; exact ⟨_, rfl⟩
end
end L2

namespace L2
open PySem PySem.Spec PyProof.Rows

/-! ### an instance, its attributes a map -/
structure ObjM (h : Heap) (x dx C : Addr) (mA : Str → Option Value) : Prop where
  obj : h.get? x = some (PySem.W.instObj C dx)
  ns : h.Ns1 dx mA
  ne : dx ≠ x

theorem lookIn_ns {h : Heap} {dx : Addr} {mA : Str → Option Value} (n : h.Ns1 dx mA) : ∃ od, h.get? dx = some od ∧ ∀ name, PySem.W.lookIn name od = some (mA name) := by
  obtain ⟨o, es, ep, ho, hd, hk, _, hm⟩ := n
  refine ⟨o, ho, fun name => ?_⟩
  have e := hm name
  unfold nsFind findBy at e
  rw [← Array.find?_toList] at e
  unfold PySem.W.lookIn
  rw [hd]
  dsimp only
  split
  · rename_i y q
    rw [q] at e
    exact congrArg some e
  · rename_i q
    rw [q] at e
    have a : es.toList.any (·.refKey) = false := by
      rw [List.any_eq_false]
      intro y hy
      obtain ⟨z, t, hkey⟩ := hk y (Array.mem_toList_iff.mp hy)
      simp [DictEntry.refKey, hkey]
    have a' : ¬ es.toList.any (·.refKey) = true := by rw [a]; exact Bool.false_ne_true
    rw [if_neg a']
    exact congrArg some e

theorem ObjM.look {h : Heap} {x dx C : Addr} {mA : Str → Option Value} (I : ObjM h x dx C mA) : ∃ od, PySem.W.InstAt h x (PySem.W.instObj C dx) C (some od) ∧ ∀ name, PySem.W.lookIn name od = some (mA name) :=
  let ⟨od, ho, hl⟩ := lookIn_ns I.ns
  ⟨od, ⟨I.obj, rfl, rfl, ho⟩, hl⟩

section
variable {prog : Program} {w : World} {A : Around} {E : Value → Shared → Prop} {s : Shared} {K : PySem.W.Frag} {x dx C f : Addr} {mA : Str → Option Value} {name : Str} {v : Value}

end

/-! ### the attributes as a list of pairs -/
section
variable {P : Program} {w : World} {H H' : Hp} {h h' : Heap} {a C dx : Addr} {fs fs' : List (Str × V)}
theorem ins_get (hok : HOk P w H h) (e : H a = some (.ins C dx fs)) : ∃ mA, ObjM h a dx C mA ∧ (∀ f, RelO (fs.lookup f) (mA f)) ∧ PySem.Within mA (fs.map (·.1)) ∧ fs.length ≤ 1000 ∧ H dx = some (.own a) := by
  obtain ⟨d, z, ne, ob, mA, n, r, q⟩ := (show ObjOk P w H h a (.ins C dx fs) from hok a _ e)
  exact ⟨mA, ⟨ob, n, ne⟩, r, q, z, d⟩
end

/-! ### what of the text a class must have -/
structure Cls (K : PySem.W.Frag) (C : Addr) : Prop where
  pg : PySem.W.plainGet K C Str.empty = true
  hd : PySem.W.hasDictIn K C = true
  po : PySem.W.plainOver K C = true
  sa : PySem.W.findIn K (.ref C) "__setattr__" = some (some (.builtin "object.__setattr__"))
theorem Cls.get {K : PySem.W.Frag} {C : Addr} (c : Cls K C) (f : Str) : PySem.W.plainGet K C f = true := c.pg
/-- a constant of the class -/
structure Con (K : PySem.W.Frag) (C : Addr) (f : Str) (v : V) (u : Value) : Prop where
  at_ : PySem.W.findIn K (.ref C) f = some (some u)
  rel : RelV v u
  get : PySem.W.specialIn K u "__get__" = some none
  cp : PySem.W.copiedNames.contains f = false
/-- a method: a plain def of the class or of one above it -/
structure Meth (K : PySem.W.Frag) (C : Addr) (m : Str) (f : Addr) : Prop where
  at_ : PySem.W.findIn K (.ref C) m = some (some (.ref f))
  fn : PySem.W.isFn K (.ref f) = true
  kp : PySem.W.keepIn K (.ref f) = true

section
variable {X : Cx} {pins : List (Addr × Obj)} {σ : St} {H : Hp} {s : Shared} {a C dx : Addr} {fs : List (Str × V)} {f : Str} {v : V} {A : Around} {E : Value → Shared → Prop}

end

/-! ### readings and rules -/
section
variable {X : Cx} {o e value : Expr} {f : Str} {pos pos' tpos : Pos} {ta tv : TE}
end

/-! ### isinstance -/
section
variable {X : Cx} {pins : List (Addr × Obj)} {σ : St} {H : Hp} {s : Shared} {A : Around} {E : Value → Shared → Prop} {Q : Value → Shared → Prop} {c : Value} {b : Bool}
/-- the type of a value, as the fragment's deciders take it; for an instance its class -/
inductive TyOf (K : PySem.W.Frag) (H : Hp) : V → Value → Prop where
  | non : TyOf K H .non (.type "NoneType")
  | bl (x : Bool) : TyOf K H (.bl x) (.type "bool")
  | int (i : Int) : TyOf K H (.int i) (.type "int")
  | str (x : Str) : TyOf K H (.str x) (.type "str")
  | flt (x : UInt64) : TyOf K H (.flt x) (.type "float")
  | lst {a : Addr} {xs : List V} (e : H a = some (.lst xs)) : TyOf K H (.ref a) (.type "list")
  | frz {a : Addr} {o : Obj} {xs : List V} (e : H a = some (.frz o (.lst xs))) : TyOf K H (.ref a) (.type "list")
  | tup {a : Addr} {xs : List V} (e : H a = some (.tup xs)) : TyOf K H (.ref a) (.type "tuple")
  | dK {a : Addr} {kvs : List (Key × V)} (e : H a = some (.dK kvs)) : TyOf K H (.ref a) (.type "dict")
  | dT {a : Addr} {kvs : List (List Key × V)} (e : H a = some (.dT kvs)) : TyOf K H (.ref a) (.type "dict")
  | ins {a C dx : Addr} {fs : List (Str × V)} (e : H a = some (.ins C dx fs)) (cl : Cls K C) (ha : PySem.W.findIn K (.ref C) "__class__" = some (some (.builtin "object.__class__")))
      (hn : PySem.W.specialIn K (.builtin "object.__class__") "__get__" = some (some (.builtin "getset_descriptor.__get__"))) (htk : PySem.W.takesIn K (.builtin "object.__class__") = some true)
      (hm : PySem.W.mroIn K C (.type "object") = some true) : TyOf K H (.ref a) (.ref C)
/-- isinstance(x, c) for one class c, a built-in or an own one: kitOne's answer -/
theorem isinst_ok {x : V} {u t : Value} (I : Inv X pins σ H s) (rx : RelV x u) (ty : TyOf X.K H x t) (e : PySem.W.kitOne X.K t c = some b) (h : ∀ tk, Q (.bool b) { s with toks := tk }) :
    wpAny (model X.prog X.w) A (call (.builtin "isinstance") [u, c]) Q E s := by
  cases ty with
  | non => cases (show u = Value.none from rx); exact PySem.W.kia_one PySem.W.kitx_none I.kIn True.intro e (fun z => nomatch z) h
  | bl y => cases (show u = Value.bool y from rx); exact PySem.W.kia_one PySem.W.kitx_bool I.kIn True.intro e (fun z => nomatch z) h
  | int i => obtain ⟨t, q⟩ := (show ∃ t, u = Value.int i t from rx); cases q; exact PySem.W.kia_one PySem.W.kitx_int I.kIn True.intro e (fun z => nomatch z) h
  | str y => obtain ⟨t, q⟩ := (show ∃ t, u = Value.str y t from rx); cases q; exact PySem.W.kia_one PySem.W.kitx_str I.kIn True.intro e (fun z => nomatch z) h
  | flt y => obtain ⟨t, q⟩ := (show ∃ t, u = Value.float y t from rx); cases q; exact PySem.W.kia_one PySem.W.kitx_float I.kIn True.intro e (fun z => nomatch z) h
  | @lst a xs ea =>
    cases (show u = Value.ref a from rx)
    obtain ⟨_, _, n, _, h1⟩ := (show ObjOk X.prog X.w H s.heap a (.lst xs) from I.hok a _ ea)
    exact PySem.W.kia_one PySem.W.kitx_list I.kIn ⟨_, h1, rfl⟩ e (fun z => nomatch z) h
  | @frz a ob xs ea =>
    cases (show u = Value.ref a from rx)
    obtain ⟨_, _, _, n, _, h1⟩ := (show ObjOk X.prog X.w H s.heap a (.frz ob (.lst xs)) from I.hok a _ ea)
    exact PySem.W.kia_one PySem.W.kitx_list I.kIn ⟨_, h1, rfl⟩ e (fun z => nomatch z) h
  | @tup a xs ea =>
    cases (show u = Value.ref a from rx)
    obtain ⟨_, _, _, p⟩ := (show ObjOk X.prog X.w H s.heap a (.tup xs) from I.hok a _ ea)
    obtain ⟨o, h1, h2, _⟩ := p
    exact PySem.W.kia_one PySem.W.kitx_tuple I.kIn ⟨o, h1, h2⟩ e (fun z => nomatch z) h
  | @dK a kvs ea =>
    cases (show u = Value.ref a from rx)
    obtain ⟨_, _, vs, _, p⟩ := (show ObjOk X.prog X.w H s.heap a (.dK kvs) from I.hok a _ ea)
    obtain ⟨o, es, ep, h1, h2, _⟩ := p
    exact PySem.W.kia_one PySem.W.kitx_dict I.kIn ⟨o, h1, h2.1⟩ e (fun z => nomatch z) h
  | @dT a kvs ea =>
    cases (show u = Value.ref a from rx)
    obtain ⟨_, _, xs, _, o, es, ep, h1, h2, _⟩ := (show ObjOk X.prog X.w H s.heap a (.dT kvs) from I.hok a _ ea)
    exact PySem.W.kia_one PySem.W.kitx_dict I.kIn ⟨o, h1, h2.1⟩ e (fun z => nomatch z) h
  | @ins a C dx fs ea cl ha hn htk hm =>
    cases (show u = Value.ref a from rx)
    obtain ⟨mA, O, _⟩ := ins_get I.hok ea
    obtain ⟨od, J, _⟩ := O.look
    exact PySem.W.kia_one (PySem.W.kitx_own (cl.get _) cl.hd ha hn htk hm) I.kIn J e (fun z => nomatch z) h
end
end L2

namespace L2
open PySem PySem.Spec PyProof.Rows

/-! ### room -/
structure Room (k : Nat) (A : Around) : Prop where
  hd : A.handled = none
  dp : A.depth + 3 * k + 5 < recursionLimit
  un : A.units + 16 * k + 200 < cLine
  gu : A.guards = some []
theorem Room.mono {j k : Nat} {A : Around} (r : Room k A) (h : j ≤ k) : Room j A := ⟨r.hd, by have := r.dp; omega, by have := r.un; omega, r.gu⟩
theorem Room.deeper {k : Nat} {A : Around} (r : Room (k + 1) A) (env : Env) : Room k (A.deeper env) :=
  ⟨r.hd, by have := r.dp; show A.depth + 1 + 3 * k + 5 < _; omega, by have := r.un; show A.units + 3 + 16 * k + 200 < _; omega, r.gu⟩
theorem Room.in1 {k : Nat} {A : Around} (r : Room (k + 1) A) : Room k A.in1 :=
  ⟨r.hd, by have := r.dp; show A.depth + 3 * k + 5 < _; omega, by have := r.un; show A.units + 1 + 16 * k + 200 < _; omega, r.gu⟩
theorem Room.depth {k : Nat} {A : Around} (r : Room k A) : A.depth < recursionLimit := by have := r.dp; omega
theorem Room.units {k : Nat} {A : Around} (r : Room k A) : A.units + 64 < cLine := by have := r.un; omega
theorem Room.units0 {k : Nat} {A : Around} (r : Room k A) : A.units < cLine := by have := r.un; omega

/-! ### argument lists and displays -/
noncomputable def tNil : TA := fun _ H Q => Q [] H
noncomputable def tCons (ta : TE) (tr : TA) : TA := fun σ H Q => ta σ H fun x H1 => tr σ H1 fun xs H2 => Q (x :: xs) H2
section
variable {X : Cx} {e : Expr} {es : List Expr} {te : TE} {t : TA} {pos : Pos}
theorem pa_nil : PA X [] tNil := fun _ _ _ _ H Q I h => Calls.spliced_nil ⟨[], H, I, .nil, h⟩
theorem pa_cons (ha : PE X e te) (hr : PA X es t) (hs : starEach (e :: es) X.env = (false, eval e X.env) :: starEach es X.env := by rfl) : PA X (e :: es) (tCons te t) := by
  intro pos pins s σ H Q I h
  rw [hs]
  show wpAny _ _ (spliced ((false, eval e X.env) :: backTo pos (starEach es X.env))) _ _ s
  refine Calls.spliced_cons (thn (ha pins s σ H _ I h) fun u s1 ⟨x, H1, I1, r1, q1⟩ => ?_)
  exact thn (hr pos pins s1 σ H1 _ I1 q1) fun us s2 ⟨xs, H2, I2, r2, q2⟩ => ⟨x :: xs, H2, I2, .cons r1 r2, q2⟩

/-- a tuple, a list of written items -/
noncomputable def tTup (t : TA) : TE := fun σ H Q => t σ H fun xs H1 => xs.length ≤ sizeLine ∧ ∀ p, H1 p = none → Q (.ref p) (upd H1 p (.tup xs))
noncomputable def tLst (t : TA) : TE := fun σ H Q => t σ H fun xs H1 => xs.length ≤ sizeLine ∧ ∀ p, H1 p = none → Q (.ref p) (upd H1 p (.lst xs))
theorem pe_tup {x1} (h : PA X es t) : PE X (.Tuple es x1 pos) (tTup t) := by
  intro pins s σ H Q I hq
  refine wpAny_Tuple_spliced (thn (h pos pins s σ H _ I hq) fun us s1 ⟨xs, H1, I1, r, z, q⟩ => ⟨by rw [← r.length]; exact z, ?_⟩)
  have hf : H1 s1.heap.objs.size = none := I1.hok.fresh (Nat.le_refl _)
  refine ⟨.ref s1.heap.objs.size, upd H1 s1.heap.objs.size (.tup xs), I1.laid (t' := s1.toks) (fun b u e => Heap.get?_push_of_some _ e) (Nat.le_refl _) ?_, rfl, q _ hf⟩
  exact ⟨z, us, r, ⟨_, Heap.get?_push_size _ rfl, rfl, _, rfl⟩⟩
theorem pe_lst (h : PA X es t) : PE X (.List es pos) (tLst t) := by
  intro pins s σ H Q I hq
  refine wpAny_List_spliced (thn (h pos pins s σ H _ I hq) fun us s1 ⟨xs, H1, I1, r, z, q⟩ => ⟨by rw [← r.length]; exact z, ?_⟩)
  have hf : H1 s1.heap.objs.size = none := I1.hok.fresh (Nat.le_refl _)
  refine ⟨.ref s1.heap.objs.size, upd H1 s1.heap.objs.size (.lst xs), I1.laid (t' := s1.toks) (fun b u e => Heap.get?_push_of_some _ e) (Nat.le_refl _) ?_, rfl, q _ hf⟩
  exact ⟨z, us, 0, r, Heap.get?_push_size _ rfl⟩
end

/-! ### what a def promises -/
/-- a def's promise: the bound arguments in the parameters' order, the heap, the wanted end, the wanted exception -/
noncomputable abbrev Sp := List V → Hp → VK → XK → Prop
/-- how an exception lies behind a call (file 08 gives it): the callers' frames, abstract heap and state ahead of the call, the wish, the exception, the state -/
noncomputable abbrev CXT := List Env → Hp → Shared → XK → Value → Shared → Prop

/-- the state at a call -/
structure Env0 (P : Program) (w : World) (K : PySem.W.Frag) (mg : Str → Option Value) (base : Heap) (A : Around) (outer : List Env) (s : Shared) (H : Hp) : Prop where
  frames : A.frames = some outer
  mod : Mod K mg base
  bs : ∀ b o, base.get? b = some o → s.heap.get? b = some o ∧ H b = none
  bsz : base.objs.size ≤ s.heap.objs.size
  funs : s.heap.FunFrames base outer
  frf : ∀ b ∈ frs outer, H b = none
  hok : HOk P w H s.heap
  bare : AllBare s.gens
/-- a call's end -/
noncomputable def CE (outer : List Env) (P : Program) (w : World) (H : Hp) (s : Shared) (Q : VK) (u : Value) (s' : Shared) : Prop :=
  ∃ v H', s'.os = s.os ∧ AllBare s'.gens ∧ Un (frs outer) [] H H' s.heap s'.heap ∧ HOk P w H' s'.heap ∧ RelV v u ∧ Q v H'
noncomputable def CR (CX : CXT) (outer : List Env) (P : Program) (w : World) (H : Hp) (s : Shared) (Q : VK) (E : XK) (r : Result) (s' : Shared) : Prop :=
  match r with
  | .ok (.ret u) => CE outer P w H s Q u s'
  | .ok _ => False
  | .error e => CX outer H s E e s'
structure FnOk (P : Program) (w : World) (K : PySem.W.Frag) (mg : Str → Option Value) (base : Heap) (CX : CXT) (k : Nat) (f : Addr) (fd : FuncData) (ps : List Str) (sp : Sp) : Prop where
  len : ∀ vs H Q E, sp vs H Q E → vs.length = ps.length
  run : ∀ (A : Around) (outer : List Env) (s : Shared) (H : Hp) (args : Args) (us : List Value) (vs : List V) (Q : VK) (E : XK), Room k A → Env0 P w K mg base A outer s H → BindsTo s fd args (ps.zip us) → Vals vs us → sp vs H Q E →
    codeAny (model P w) A (.call (.ref f) args) (CR CX outer P w H s Q E) s
section
variable {X : Cx} {pins : List (Addr × Obj)} {σ : St} {H : Hp} {s s' : Shared}
/-- from a body: what a callee wants -/
theorem Inv.env0 (I : Inv X pins σ H s) : Env0 X.prog X.w X.K X.mg X.base X.A X.stack s H :=
  ⟨I.ok.frames, I.ok.mod, I.bs, Nat.le_trans I.ok.bsz I.sz, I.stack, I.stkFree, I.hok, I.bare⟩
/-- behind a call -/
theorem Inv.after {Q : VK} {u : Value} (I : Inv X pins σ H s) (h : CE X.stack X.prog X.w H s Q u s') : EP X pins σ Q u s' := by
  obtain ⟨v, H', os, bare, un, hok, r, q⟩ := h
  obtain ⟨hh, g, d, t, os'⟩ := s'
  obtain rfl : os' = s.os := os
  exact ⟨v, H', I.call (h' := hh) (g' := g) (d' := d) (t' := t) (ch := []) un hok bare (fun b z => absurd z (by simp)), r, q⟩
end

/-! ### calls -/
/-- f(..): the written arguments, then the defaults dvs; E: what is wanted of an exception -/
noncomputable def tCall (sp : Sp) (dvs : List V) (E : XK) (t : TA) : TE := fun σ H Q => t σ H fun vs H1 => sp (vs ++ dvs) H1 Q E
/-- how the parameters are bound: us the positional arguments, kw the keywords' values by name, ds the defaults that fill up -/
noncomputable def Binds (K : PySem.W.Frag) (fd : FuncData) (ps : List Str) (ds : List Value) : Prop :=
  ∀ (s : Shared) (us : List Value), K.In s.heap → (us ++ ds).length = ps.length → BindsTo s fd ⟨us, []⟩ (ps.zip (us ++ ds))
/-- every parameter is given -/
theorem Binds.all {K : PySem.W.Frag} {fd : FuncData} {ps : List Str} (h : ∀ us : List Value, us.length = ps.length → bindArgs fd ⟨us, []⟩ = pure (ps.zip us)) : Binds K fd ps [] := fun s us _ hl => by
  rw [List.append_nil] at hl ⊢
  exact .of_eq (h us hl)

/-- an exception of a callee reaches what this body wants of exceptions -/
noncomputable def Passes (CX : CXT) (X : Cx) (E : XK) : Prop := ∀ (pins : List (Addr × Obj)) (σ : St) (H : Hp) (s : Shared) (e : Value) (s' : Shared), Inv X pins σ H s → CX X.stack H s E e s' → X.xe e s'

section
variable {X : Cx} {CX : CXT} {k : Nat} {f C : Addr} {fd : FuncData} {ps : List Str} {sp : Sp} {dvs : List V} {ds : List Value} {E : XK} {x m : Str} {p pos apos : Pos} {e o : Expr} {es : List Expr} {ta : TE} {t : TA}

/-- the callee runs -/
theorem run_fn {pins : List (Addr × Obj)} {σ : St} {H : Hp} {s : Shared} {Q : VK} {us : List Value} {vs : List V} (F : FnOk X.prog X.w X.K X.mg X.base CX k f fd ps sp) (hr : Room k X.A) (hb : Binds X.K fd ps ds) (hd : Vals dvs ds) (hx : Passes CX X E)
    (I : Inv X pins σ H s) (r : Vals vs us) (h : sp (vs ++ dvs) H Q E) : wpAny (model X.prog X.w) X.A (call (.ref f) us) (EP X pins σ Q) X.xe s := by
  have r2 : Vals (vs ++ dvs) (us ++ ds) := r.append hd
  have hl : (us ++ ds).length = ps.length := by rw [← r2.length]; exact F.len _ _ _ _ h
  refine wpAny_call (codeAny_mono (F.run X.A X.stack s H ⟨us, []⟩ (us ++ ds) (vs ++ dvs) Q E hr I.env0 (hb s us I.kIn hl) r2 h) fun r s' hq => ?_)
  cases r with
  | error e => exact hx pins σ H s e s' I hq
  | ok fl =>
    cases fl with
    | ret u => exact I.after hq
    | next => exact False.elim hq
    | brk => exact False.elim hq
    | cont => exact False.elim hq

theorem pe_call (F : FnOk X.prog X.w X.K X.mg X.base CX k f fd ps sp) (hr : Room k X.A) (hg : Gl X x) (hm : X.mg x = some (.ref f)) (hk : PySem.W.keepIn X.K (.ref f) = true) (hb : Binds X.K fd ps ds) (hd : Vals dvs ds) (hx : Passes CX X E)
    (ha : PA X (e :: es) t) (hdb : (x == ("__debug__" : Str)) = false := by decide) (he : starEach (e :: es) X.env = (false, eval e X.env) :: starEach es X.env := by rfl) (hpl : (backTo pos (starEach es X.env)).any (·.1) = false := by rfl) :
    PE X (.Call (.Name x p) (e :: es) [] pos) (tCall sp dvs E t) := by
  intro pins s σ H Q I h
  refine wpAny_Call_Name_kw (ld_glob I hg hm ?_ hdb)
  refine PySem.W.callWith_K (h₀ := X.base) I.ok.mod.kin hk (thn (ha pos pins s σ H _ I h) fun us s1 ⟨vs, H1, I1, r, q⟩ => ⟨I1.kIn, ?_⟩) he hpl
  exact run_fn F hr hb hd hx I1 r q
/-- what a class must have to be made -/
structure Mk (K : PySem.W.Frag) (C f : Addr) : Prop where
  makes : PySem.W.makesIn K C = true
  init : PySem.W.findIn K (.ref C) "__init__" = some (some (.ref f))
  fn : PySem.W.isFn K (.ref f) = true
  kp : PySem.W.keepIn K (.ref C) = true

end

/-! ### keywords -/
section
variable {X : Cx} {CX : CXT} {k : Nat} {f C : Addr} {fd : FuncData} {ps ks : List Str} {sp : Sp} {E : XK} {x m : Str} {p pos apos kpos : Pos} {e o : Expr} {es : List Expr} {kws : List Keyword} {te ta : TE} {t tk : TA} {nm : Option Str}
/-- how a call with keywords binds: g puts the positional values us and the keywords' values ws (names ks) in the parameters' order, defaults among them -/
structure KBinds (K : PySem.W.Frag) (fd : FuncData) (ps ks : List Str) (g : List Value → List Value → List Value) (gV : List V → List V → List V) : Prop where
  to : ∀ (s : Shared) (us ws : List Value), K.In s.heap → (g us ws).length = ps.length → BindsTo s fd ⟨us, ks.zip ws⟩ (ps.zip (g us ws))
  rel : ∀ {vs : List V} {us : List Value} {zs : List V} {ws : List Value}, Vals vs us → Vals zs ws → Vals (gV vs zs) (g us ws)
variable {g : List Value → List Value → List Value} {gV : List V → List V → List V}
end

/-! ### a def's body keeps its promise -/
/-- names: the parameters first -/
structure FnScope (N P : List Str) (sc : Scope) : Prop where
  kind : sc.kind = .function
  co : sc.isCoroutine = false
  gen : sc.isGenerator = false
  nd : N.Nodup
  pre : N.take P.length = P
  par : ∀ x ∈ P, sc.names.lookup x = some .local ∨ sc.names.lookup x = some .cell
  nofree : ∀ y ∈ sc.names, y.2 ≠ .free

theorem bindL_out {kindOf : Str → Option NameKind} {x : Str} : ∀ {binds : List (Str × Value)} {m : Str → Option Value}, (∀ v, (x, v) ∉ binds) → bindL kindOf binds m x = m x
  | [], _, _ => rfl
  | (n, v) :: r, m, h => by
    unfold bindL
    rw [bindL_out fun w hw => h w (List.mem_cons_of_mem _ hw)]
    split
    · have : x ≠ n := by rintro rfl; exact h v List.mem_cons_self
      simp [this]
    · rfl
theorem bindC_out {kindOf : Str → Option NameKind} {x : Str} : ∀ {binds : List (Str × Value)} {m : Str → Option Value}, (∀ v, (x, v) ∉ binds) → bindC kindOf binds m x = m x
  | [], _, _ => rfl
  | (n, v) :: r, m, h => by
    unfold bindC
    rw [bindC_out fun w hw => h w (List.mem_cons_of_mem _ hw)]
    split
    · rfl
    · have : x ≠ n := by rintro rfl; exact h v List.mem_cons_self
      simp [this]
theorem bindL_get {kindOf : Str → Option NameKind} {x : Str} {v : Value} : ∀ {P : List Str} {vs : List Value} {i : Nat} {m : Str → Option Value}, P.Nodup → P[i]? = some x → vs[i]? = some v → kindOf x = some .local →
    bindL kindOf (P.zip vs) m x = some v
  | [], _, _, _, _, h, _, _ => by simp at h
  | _ :: _, [], _, _, _, _, h, _ => by simp at h
  | p :: P, w :: vs, 0, m, nd, h1, h2, hk => by
    simp at h1 h2; subst h1; subst h2
    show bindL kindOf ((p, w) :: P.zip vs) m p = _
    unfold bindL
    rw [bindL_out fun v hv => (List.nodup_cons.mp nd).1 (List.of_mem_zip hv).1, if_pos hk]
    simp
  | p :: P, w :: vs, i + 1, m, nd, h1, h2, hk => by
    show bindL kindOf ((p, w) :: P.zip vs) m x = _
    unfold bindL
    exact bindL_get (i := i) (List.nodup_cons.mp nd).2 (by simpa using h1) (by simpa using h2) hk
theorem bindC_get {kindOf : Str → Option NameKind} {x : Str} {v : Value} : ∀ {P : List Str} {vs : List Value} {i : Nat} {m : Str → Option Value}, P.Nodup → P[i]? = some x → vs[i]? = some v → kindOf x ≠ some .local →
    bindC kindOf (P.zip vs) m x = some v
  | [], _, _, _, _, h, _, _ => by simp at h
  | _ :: _, [], _, _, _, _, h, _ => by simp at h
  | p :: P, w :: vs, 0, m, nd, h1, h2, hk => by
    simp at h1 h2; subst h1; subst h2
    show bindC kindOf ((p, w) :: P.zip vs) m p = _
    unfold bindC
    rw [bindC_out fun v hv => (List.nodup_cons.mp nd).1 (List.of_mem_zip hv).1, if_neg hk]
    simp
  | p :: P, w :: vs, i + 1, m, nd, h1, h2, hk => by
    show bindC kindOf ((p, w) :: P.zip vs) m x = _
    unfold bindC
    exact bindC_get (i := i) (List.nodup_cons.mp nd).2 (by simpa using h1) (by simpa using h2) hk

/-- the names' values at the entry -/
noncomputable def start (N : List Str) (vs : List V) : St := vs.map some ++ List.replicate (N.length - vs.length) none

/-- the context of a def's body, at its entry; an exception leaves the frame, then lies as CX says -/
noncomputable def cxOf (CX : CXT) (P : Program) (w : World) (K : PySem.W.Frag) (mg : Str → Option Value) (base : Heap) (N : List Str) (qual : Str) (scope : Scope) (f : Addr) (cd : Value) (A : Around) (outer : List Env) (s : Shared) (H : Hp) (E : XK) : Cx where
  prog := P
  w := w
  K := K
  mg := mg
  base := base
  A := A.deeper (envOfC qual scope s.heap.objs.size f cd)
  N := N
  s₀ := s
  H₀ := H
  env := envOfC qual scope s.heap.objs.size f cd
  outer := outer
  stack := envOfC qual scope s.heap.objs.size f cd :: outer
  ex := []
  calm := true
  fn := fun _ => true
  pn := []
  xe := fun e s' => wpAny (model P w) (A.deeper (envOfC qual scope s.heap.objs.size f cd)) (leaving (envOfC qual scope s.heap.objs.size f cd) e) (fun _ s'' => CX outer H s E e s'') (fun e' s'' => CX outer H s E e' s'') s'

theorem cell_has {sc : Scope} {n : Nat} {x : Str} (h : sc.names.lookup x = some .cell) : ∃ c, (cellsFrom n sc.names []).lookup x = some c := by
  have q := PySem.W.cellsFrom_some sc.names n [] (.inl h)
  exact Option.isSome_iff_exists.mp q

theorem inv_start {CX : CXT} {P : Program} {w : World} {K : PySem.W.Frag} {mg : Str → Option Value} {base : Heap} {N ps : List Str} {qual : Str} {scope : Scope} {f : Addr} {cd : Value} {A : Around} {outer : List Env} {s s1 : Shared} {H : Hp} {E : XK} {us : List Value} {vs : List V}
    (S : FnScope N ps scope) (hd : A.handled = none) (e0 : Env0 P w K mg base A outer s H) (hl : vs.length = ps.length) (r : Vals vs us)
    (x : InCallC s s.heap.objs.size (bindL (envOfC qual scope s.heap.objs.size f cd).kindOf (ps.zip us) fun _ => none) (cellsFrom (s.heap.objs.size + 1) scope.names []) (bindC (envOfC qual scope s.heap.objs.size f cd).kindOf (ps.zip us) fun _ => none) s1) :
    Inv (cxOf CX P w K mg base N qual scope f cd A outer s H E) [] (start N vs) H s1 := by
  have hpl : ps.length ≤ N.length := by have := congrArg List.length S.pre; rw [List.length_take] at this; omega
  obtain ⟨h1, tk, rfl, hk⟩ := x.done
  have noA : ∀ b : Addr, b ∉ (cxOf CX P w K mg base N qual scope f cd A outer s H E).ex := fun b z => absurd (show b ∈ ([] : List Addr) from z) (by simp)
  refine ⟨⟨e0.mod, S.kind, rfl, rfl, Nat.le_refl _, fun y z c h1 h2 => ?_, fun y hy => ?_, fun y c _ h => ?_, fun _ => hd, Around.frames_deeper e0.frames, .inr ⟨rfl, rfl⟩, fun b z => absurd z (noA b), e0.bs, e0.bsz, fun b _ _ => noA b, fun b z => absurd z (noA b), e0.funs, e0.frf⟩,
    rfl, e0.bare, Un.kept hk, ⟨_, x.toInCall.ns, fun i y v h1 h2 h3 => ?_⟩, fun y c h => ⟨_, x.cell y c h⟩, e0.hok.fresh (Nat.le_refl _), fun y c h => ?_, fun p hp => absurd (show p ∈ ([] : List (Addr × Obj)) from hp) (by simp), e0.hok.kept hk, ?_⟩
  · exact name_of_addr x.apart (PySem.mem_of_lookup h1) (PySem.mem_of_lookup h2)
  · have hy : scope.names.lookup y = some .cell ∨ scope.names.lookup y = some .free := hy
    rcases hy with hy | hy
    · exact cell_has hy
    · exact absurd rfl (S.nofree _ (PySem.mem_of_lookup hy))
  · exact Nat.le_of_lt (x.above y c (PySem.mem_of_lookup h))
  · have hi : i < vs.length := by
      unfold start at h2
      by_cases hi : i < vs.length
      · exact hi
      · rw [List.getElem?_append_right (by simpa using hi)] at h2
        rw [List.getElem?_replicate] at h2
        split at h2 <;> cases h2
    have ha : vs[i]? = some v := by
      unfold start at h2
      rw [List.getElem?_append_left (by simpa using hi), List.getElem?_map] at h2
      cases e : vs[i]? with
      | none => rw [e] at h2; cases h2
      | some a => rw [e] at h2; cases h2; rfl
    obtain ⟨u, hu, rv⟩ := r.get ha
    have hp : ps[i]? = some y := by
      rw [← S.pre, List.getElem?_take_of_lt (by omega)]; exact h1
    have ndP : ps.Nodup := by rw [← S.pre]; exact S.nd.sublist (List.take_sublist _ _)
    refine ⟨u, rv, ?_⟩
    rcases S.par y (List.mem_of_getElem? hp) with k | k
    · exact .inl ⟨k, bindL_get ndP hp hu k⟩
    · obtain ⟨c, e⟩ := cell_has (n := s.heap.objs.size + 1) k
      refine .inr ⟨.inl k, c, e, ?_⟩
      have q := x.cell y c e
      rw [bindC_get ndP hp hu (by show scope.names.lookup y ≠ _; rw [k]; decide)] at q
      exact q
  · exact e0.hok.fresh (Nat.le_of_lt (x.above y c (PySem.mem_of_lookup h)))
  · unfold start
    show _ = N.length
    rw [List.length_append, List.length_map, List.length_replicate]
    omega

/-- THE RULE: a def (or a method) of the text, by its body. The body's reading t is chosen for each entry; it is run at the parameters' values -/
theorem fn_of {CX : CXT} {P : Program} {w : World} {K : PySem.W.Frag} {mg : Str → Option Value} {base : Heap} {k : Nat} {f : Addr} {name qual : Str} {params : Arguments} {body : List Stmt} {scope : Scope} {dV kV doc pm cdv ct oc : Value} {an od : Option Addr}
    {osl : Array (Option Value)} {N ps : List Str} {sp : Sp} (lk : K.lookup f = some ⟨oc, od, .func (PySem.W.fnOf name qual params body scope dV kV doc pm an cdv ct), osl⟩) (hcd : PySem.W.codeIn K cdv qual = true) (S : FnScope N ps scope)
    (len : ∀ vs H Q E, sp vs H Q E → vs.length = ps.length)
    (hbody : ∀ (A : Around) (outer : List Env) (s : Shared) (H : Hp) (vs : List V) (Q : VK) (E : XK), Room k (A.deeper (envOfC qual scope s.heap.objs.size f cdv)) → sp vs H Q E →
      ∃ t, PSs (cxOf CX P w K mg base N qual scope f cdv A outer s H E) body t ∧ t { nx := fun _ H' => Q .non H', rt := Q } (start N vs) H) :
    FnOk P w K mg base CX (k + 1) f (PySem.W.fnOf name qual params body scope dV kV doc pm an cdv ct) ps sp := by
  refine ⟨len, fun A outer s H args us vs Q E hr e0 hb r hsp => ?_⟩
  have hl := len _ _ _ _ hsp
  have KX : K.In s.heap := e0.mod.kin.keeps fun b o e => (e0.bs b o e).1
  have lim : s.heap.NoLimit := e0.mod.nolimit.keeps fun b o e => (e0.bs b o e).1
  have hkind : ∀ y ∈ ps.zip us, scope.names.lookup y.1 = some .local ∨ (scope.names.lookup y.1 = some .cell ∧ ((cellsFrom (s.heap.objs.size + 1) scope.names []).lookup y.1).isSome = true) := fun ⟨n, v⟩ hy => by
    rcases S.par n (List.of_mem_zip hy).1 with q | q
    · exact .inl q
    · exact .inr ⟨q, PySem.W.cellsFrom_some _ _ _ (.inl q)⟩
  refine codeAny_call_function hr.depth (KX _ _ lk) rfl S.co S.gen rfl (PySem.W.codeRec_of KX hcd) (hb _ _ _ _ ?_)
  refine wpAny_newFunctionEnv_cells S.kind hkind fun env he s1 x => ?_
  subst he
  refine ⟨lim.keeps x.toInCall.keep, codeAny_func ?_⟩
  obtain ⟨t, ht, hq⟩ := hbody A outer s H vs Q E (hr.deeper _) hsp
  have I : Inv (cxOf CX P w K mg base N qual scope f cdv A outer s H E) [] (start N vs) H s1 := inv_start S hr.hd e0 hl r x
  refine wpAny_mono (ht [] s1 (start N vs) H _ I hq) (fun fl s' hs => ?_) fun e s' hs => hs
  have fin : ∀ {σ' : St} {H' : Hp} {v : V} {u : Value}, Inv (cxOf CX P w K mg base N qual scope f cdv A outer s H E) [] σ' H' s' → RelV v u → Q v H' → CE outer P w H s Q u s' :=
    fun {σ' H' v u} J rv q => ⟨v, H', J.os, J.bare, J.base, J.hok, rv, q⟩
  cases fl with
  | ret u =>
    obtain ⟨v, σ', H', J, rv, q⟩ := hs
    exact fin J rv q
  | next =>
    obtain ⟨σ', H', J, q⟩ := hs
    exact fin (v := V.non) (u := Value.none) J rfl q
  | brk =>
    obtain ⟨_, _, _, q⟩ := hs
    exact False.elim q
  | cont =>
    obtain ⟨_, _, _, q⟩ := hs
    exact False.elim q
end L2

namespace L2
open PySem PySem.Spec PyProof.Rows
section
variable {X : Cx} {x : Str} {p pos : Pos} {e : Expr} {es : List Expr} {t : TA} {id T : String} {r : List V → Hp → VK → Prop}

noncomputable def tCB (r : List V → Hp → VK → Prop) (t : TA) : TE := fun σ H Q => t σ H fun vs H1 => r vs H1 Q
/-- f(e, ..), f a built-in function -/
theorem pe_callB (hc : CallR X (.builtin id) r) (hg : Gl X x) (hm : X.mg x = none) (hv : bootBuiltins x = some (.builtin id)) (ha : PA X (e :: es) t) (hn : x ≠ "__name__" := by decide) (hdb : (x == ("__debug__" : Str)) = false := by decide)
    (he : starEach (e :: es) X.env = (false, eval e X.env) :: starEach es X.env := by rfl) (hpl : (backTo pos (starEach es X.env)).any (·.1) = false := by rfl) : PE X (.Call (.Name x p) (e :: es) [] pos) (tCB r t) := by
  intro pins s σ H Q I h
  refine wpAny_Call_Name_kw (ld_blt I hg hm hv ?_ hn hdb)
  exact PyProof.Rows.callWith_builtin1 (thn (ha pos pins s σ H _ I h) fun us s1 ⟨vs, H1, I1, r1, q1⟩ => hc pins s1 σ H1 vs us Q I1 r1 q1) he hpl
/-- T(e, ..), T a built-in type -/
theorem pe_callTy (hc : CallR X (.type T) r) (hg : Gl X x) (hm : X.mg x = none) (hv : bootBuiltins x = some (.type T)) (ha : PA X (e :: es) t) (hn : x ≠ "__name__" := by decide) (hdb : (x == ("__debug__" : Str)) = false := by decide)
    (he : starEach (e :: es) X.env = (false, eval e X.env) :: starEach es X.env := by rfl) (hpl : (backTo pos (starEach es X.env)).any (·.1) = false := by rfl) : PE X (.Call (.Name x p) (e :: es) [] pos) (tCB r t) := by
  intro pins s σ H Q I h
  refine wpAny_Call_Name_kw (ld_blt I hg hm hv ?_ hn hdb)
  exact PyProof.Rows.callWith_type1 (thn (ha pos pins s σ H _ I h) fun us s1 ⟨vs, H1, I1, r1, q1⟩ => hc pins s1 σ H1 vs us Q I1 r1 q1) he hpl
end
end L2

namespace HT
open PySem PyProof.Rows

/-- t < u of tuples of ints -/
noncomputable def lexLt : List Int → List Int → Bool
  | [], [] => false
  | [], _ :: _ => true
  | _ :: _, [] => false
  | x :: xs, y :: ys => if x = y then lexLt xs ys else decide (x < y)
theorem eqAt_int (A : Around) (s : Shared) (a : Int) (t : Tok) (c : Int) (u : Tok) : ∃ e, SeqAt.EqAt A s (.int a t) (.int c u) e ∧ (e = true ↔ a = c) :=
  ⟨(a == c), SeqAt.EqAt.int_int a t c u, by simp⟩
theorem rcLt_int (A : Around) (s : Shared) (a : Int) (t : Tok) (c : Int) (u : Tok) (prog : Program) (w : World) (E : Value → Shared → Prop) (Q : Value → Shared → Prop) (h : Q (.bool (decide (a < c))) s) :
    wpAny (model prog w) A (richCompare .Lt (.int a t) (.int c u)) Q E s :=
  (PyProof.Rows.lt_int h : wpAny (model prog w) A (compareOp .Lt (.int a t) (.int c u)) Q E s)

section
open PySem.SeqAt
open PySem.AutoSeq1 (wpAny_loadPart')
open PySem.MeetsSeq PySem.MeetsSeq2 PySem.MeetsSeq3

end

section
variable {prog : Program} {w : World} {A : Around} {E : Value → Shared → Prop} {s : Shared}

/-- t + u, t not empty -/
theorem cat_tup {t b : Addr} {vs ws : List Value} {Q : Value → Shared → Prop} (ht : IsTup s.heap t vs.toArray) (hb : IsTup s.heap b ws.toArray) (hv : vs ≠ [])
    (h1 : ws = [] → Q (.ref t) s) (h2 : ws ≠ [] → Q (.ref s.heap.objs.size) { s with heap := s.heap.push { cls := .type "tuple", data := .seq (vs ++ ws).toArray } })
    (hsz : vs.length + ws.length ≤ sizeLine) : wpAny (model prog w) A (binaryOp .Add (.ref t) (.ref b)) Q E s := by
  obtain ⟨⟨cls, dd, data, sl⟩, ho, hc, n, hd⟩ := id ht
  obtain ⟨⟨cls2, dd2, data2, sl2⟩, ho2, hc2, n2, hd2⟩ := id hb
  simp only at hc hd hc2 hd2
  subst hc hd hc2 hd2
  have e : vs.toArray ++ ws.toArray = (vs ++ ws).toArray := by simp
  by_cases hw : ws = []
  · exact concat_meets ⟨_, ho, rfl⟩ ⟨_, ho2, rfl⟩ noFill_tuple_add seq_tuple_add PySem.F.slot_tuple_add PySem.F.entry_tuple_add (PySem.F.args_tuple_add_2 _ _)
      (tuple_addW1 t b vs.toArray ws.toArray n n2 dd dd2 sl sl2 (by simpa using hv) (by simp [hw])) ⟨ho, ho2, h1 hw⟩
  · refine concat_meets ⟨_, ho, rfl⟩ ⟨_, ho2, rfl⟩ noFill_tuple_add seq_tuple_add PySem.F.slot_tuple_add PySem.F.entry_tuple_add (PySem.F.args_tuple_add_2 _ _)
      (tuple_addW2 t b vs.toArray ws.toArray n n2 dd dd2 sl sl2 (by simpa using hv) (by simpa using hw) (by rw [List.size_toArray, List.size_toArray]; exact hsz)) ⟨ho, ho2, ?_⟩
    rw [e]
    exact h2 hw

/-! ### t[a:b], not the whole -/
/-- a slice's bound as a place among n (d where it is left out) -/
noncomputable def sIx (n d : Nat) : Option Int → Nat
  | none => d
  | some v => if v < 0 then (v + (n : Int)).toNat else min v.toNat n
theorem sIx_none (n d : Nat) : sIx n d none = d := rfl
theorem sIx_nat (n d k : Nat) : sIx n d (some (k : Int)) = min k n := by
  show (if (k : Int) < 0 then ((k : Int) + (n : Int)).toNat else min (k : Int).toNat n) = min k n
  rw [if_neg (by omega), Int.toNat_natCast]
theorem sIx_le (n d : Nat) (hd : d ≤ n) (o : Option Int) : sIx n d o ≤ n := by
  cases o with
  | none => exact hd
  | some v =>
    show (if v < 0 then (v + (n : Int)).toNat else min v.toNat n) ≤ n
    by_cases hv : v < 0
    · rw [if_pos hv]; omega
    · rw [if_neg hv]; exact Nat.min_le_right _ _
theorem clip_eq (v : Int) (n d : Nat) : (if v < 0 then max (v + (n : Int)) 0 else min v (n : Int)) = ((sIx n d (some v) : Nat) : Int) := by
  show (if v < 0 then max (v + (n : Int)) 0 else min v (n : Int)) = (((if v < 0 then (v + (n : Int)).toNat else min v.toNat n) : Nat) : Int)
  by_cases hv : v < 0
  · simp only [if_pos hv]; omega
  · simp only [if_neg hv]; omega
theorem adjust_gen (lo hi : Option Int) (n : Nat) : Builtin.Slice.sliceAdjust lo hi 1 (n : Int) = (((sIx n 0 lo : Nat) : Int), ((sIx n n hi : Nat) : Int)) := by
  have h1 : ¬ ((1 : Int) < 0) := by omega
  unfold Builtin.Slice.sliceAdjust
  simp only [h1, if_false]
  refine Prod.ext ?_ ?_
  · cases lo with
    | none => rfl
    | some v => exact clip_eq v n 0
  · cases hi with
    | none => rfl
    | some v => exact clip_eq v n n
theorem places_gen (i j : Nat) : Builtin.Slice.slicePlaces (i : Int) (j : Int) 1 = j - i := by
  unfold Builtin.Slice.slicePlaces
  have h1 : (1 : Int) > 0 := by omega
  simp only [h1, if_true, Int.ediv_one]
  split <;> omega
theorem slicePart_ {v : Value} {o : Option Int} {Q : Option Int → Shared → Prop} (p : IsPart v o) (h : Q o s) : wpAny (model prog w) A (Builtin.Slice.slicePartIndex v) Q E s := by
  cases p with
  | none => exact slicePart_none h
  | int i t => exact slicePart_int h
theorem sliceApplied_gen {sl : Addr} {vl vu : Value} {lo hi : Option Int} {n : Nat} {Q : Int × Int × Nat → Shared → Prop} (hs : s.heap.IsSliceOf sl vl vu .none) (pl : IsPart vl lo) (pu : IsPart vu hi)
    (h : Q (((sIx n 0 lo : Nat) : Int), 1, sIx n n hi - sIx n 0 lo) s) : wpAny (model prog w) A (Builtin.Slice.sliceApplied (.ref sl) (pure (n : Int))) Q E s := by
  obtain ⟨os, hos, hcs, hds⟩ := id hs
  unfold Builtin.Slice.sliceApplied Builtin.Slice.sliceFields
  refine wpAny_bind (wpAny_bind (wpAny_field hos hds (x := vl) rfl (wpAny_bind (wpAny_field hos hds (x := vu) rfl (wpAny_bind (wpAny_field hos hds (x := .none) rfl (wpAny_pure ?_)))))))
  refine wpAny_bind (slicePart_none ?_)
  show wpAny _ _ (if ((1 : Int) == 0) = true then _ else _) _ _ s
  rw [if_neg (by decide)]
  refine wpAny_bind (slicePart_ pl (wpAny_bind (slicePart_ pu (wpAny_bind (wpAny_pure ?_)))))
  show wpAny _ _ (match Builtin.Slice.sliceAdjust lo hi 1 (n : Int) with | (lo, hi) => pure (lo, (1 : Int), Builtin.Slice.slicePlaces lo hi 1)) _ _ s
  rw [adjust_gen lo hi n]
  show wpAny _ _ (pure (((sIx n 0 lo : Nat) : Int), (1 : Int), Builtin.Slice.slicePlaces ((sIx n 0 lo : Nat) : Int) ((sIx n n hi : Nat) : Int) 1)) _ _ s
  rw [places_gen]
  exact wpAny_pure h
theorem pick_gen (xs : Array Value) (i k : Nat) : ((List.range k).filterMap fun (m : Nat) => xs[((i : Int) + (m : Int) * 1).toNat]?).toArray = ((xs.toList.drop i).take k).toArray := by
  have e : (fun (m : Nat) => xs[((i : Int) + (m : Int) * 1).toNat]?) = fun m => xs[i + m]? := by
    funext m
    have : ((i : Int) + (m : Int) * 1).toNat = i + m := by omega
    rw [this]
  rw [e]
  have := pick_run xs i k
  rw [List.filterMap_map] at this
  have e2 : ((fun x => xs[x]?) ∘ fun x => i + x) = fun m => xs[i + m]? := rfl
  rw [e2] at this
  rw [this]

theorem getItem_tuple_cut {t sl : Addr} {items : Array Value} {vl vu : Value} {lo hi : Option Int} {Q : Value → Shared → Prop} (ht : IsTup s.heap t items) (hs : s.heap.IsSliceOf sl vl vu .none) (pl : IsPart vl lo) (pu : IsPart vu hi)
    (hw : ¬ (sIx items.size 0 lo = 0 ∧ sIx items.size items.size hi = items.size))
    (h : Q (.ref s.heap.objs.size) { s with heap := s.heap.push { cls := .type "tuple", data := .seq ((items.toList.drop (sIx items.size 0 lo)).take (sIx items.size items.size hi - sIx items.size 0 lo)).toArray } })
    (hsz : items.size ≤ sizeLine) : wpAny (model prog w) A (getItem (.ref t) (.ref sl)) Q E s := by
  have htake : sizeOk (.seq ((items.toList.drop (sIx items.size 0 lo)).take (sIx items.size items.size hi - sIx items.size 0 lo)).toArray) := by
    show ((items.toList.drop (sIx items.size 0 lo)).take (sIx items.size items.size hi - sIx items.size 0 lo)).toArray.size ≤ sizeLine
    rw [List.size_toArray, List.length_take, List.length_drop, Array.length_toList]
    omega
  have hj : sIx items.size items.size hi ≤ items.size := sIx_le _ _ (Nat.le_refl _) hi
  obtain ⟨os, hos, hcs, hds⟩ := id hs
  have hTs : s.TypeIs (.ref sl) "slice" := ⟨os, hos, hcs⟩
  unfold getItem
  try with_reducible refine wpAny_holding ?_
  first | refine wpAny_bind (wpAny_pure ?_) | skip
  refine wpAny_bind (wpAny_sequenceKey ht.typeIs (by decide) ?_)
  refine wpAny_bind (wpAny_callSpecial?_slot (name := Str.ofString "__getitem__") ht.typeIs PyProof.Rows.slot_tuple_getitem
    (wpAny_call_entry PyProof.Rows.slot_tuple_getitem ht.typeIs entry_tuple_getitem ?_ (args_tuple_getitem _ _)))
  show wpAny _ _ (Builtin.Tuple.tupleItemsOf (.ref t) >>= _) _ _ s
  refine wpAny_bind (tupleItemsOf_ ht ?_)
  refine wpAny_bind (wpAny_typeOf hTs ?_)
  rw [if_pos (by decide)]
  refine wpAny_bind (sliceApplied_gen hs pl pu ?_)
  have hno : ¬ ((((sIx items.size 0 lo : Nat) : Int) == 0 && (1 : Int) == 1 && (sIx items.size items.size hi - sIx items.size 0 lo) == items.size) = true) := by
    intro q
    rw [Bool.and_eq_true, Bool.and_eq_true] at q
    have q1 : ((sIx items.size 0 lo : Nat) : Int) = 0 := eq_of_beq q.1.1
    have q2 : sIx items.size items.size hi - sIx items.size 0 lo = items.size := eq_of_beq q.2
    exact hw ⟨by omega, by omega⟩
  show wpAny _ _ (if (((sIx items.size 0 lo : Nat) : Int) == 0 && (1 : Int) == 1 && (sIx items.size items.size hi - sIx items.size 0 lo) == items.size) = true then _ else _) _ _ s
  rw [if_neg hno, pick_gen]
  first
    | exact wpAny_bind (m := Builtin.Tuple.tupleExact _) (wpAny_newObj_type (wpAny_pure ⟨_, rfl, wpAny_pure h⟩) htake)
    | exact wpAny_bind (m := Builtin.Tuple.tupleExact _) (wpAny_newObj_type (wpAny_bind (wpAny_pure (wpAny_pure ⟨_, rfl, wpAny_pure h⟩))) htake)
    | exact wpAny_bind (wpAny_bind (m := Builtin.Tuple.tupleExact _) (wpAny_newObj_type (wpAny_pure (wpAny_pure ⟨_, rfl, wpAny_pure h⟩)) htake))
    | exact wpAny_bind (wpAny_bind (m := Builtin.Tuple.tupleExact _) (wpAny_newObj_type (wpAny_pure ⟨_, rfl, wpAny_pure h⟩) htake))
end
end HT

namespace L2
open PySem PySem.Spec PyProof.Rows

/-! ### the parts of a slice -/
noncomputable abbrev TO := St → Hp → (Option Int → Hp → Prop) → Prop
/-- a slice's part (left out, or an int) -/
noncomputable def PO (X : Cx) (e : Option Expr) (t : TO) : Prop :=
  ∀ (pins : List (Addr × Obj)) (s : Shared) (σ : St) (H : Hp) (Q : Option Int → Hp → Prop), Inv X pins σ H s → t σ H Q →
    wpAny (model X.prog X.w) X.A (evalPart e X.env) (fun u s' => ∃ o H', Inv X pins σ H' s' ∧ IsPart u o ∧ Q o H') X.xe s
noncomputable def tNoPart : TO := fun _ H Q => Q none H
noncomputable def tPart (t : TE) : TO := fun σ H Q => t σ H fun x H1 => ∃ i, x = .int i ∧ Q (some i) H1

theorem intsAre_of {ns : List Int} : ∀ {us : List Value}, Vals (ns.map V.int) us → IntsAre us ns := by
  induction ns with
  | nil => intro us r; rw [List.map_nil] at r; cases r; exact .nil
  | cons n ns ih =>
    intro us r
    rw [List.map_cons] at r
    cases r with
    | cons r1 r2 =>
      obtain ⟨t, e⟩ := r1
      subst e
      exact .cons n t (ih r2)

section
variable {X : Cx} {e : Expr} {te : TE} {lo hi : Option Expr} {tl th : TO} {pos p2 : Pos}

theorem po_none : PO X none tNoPart := by
  intro pins s σ H Q I h
  rw [evalPart_none]
  exact wpAny_pure ⟨none, H, I, .none, h⟩
theorem po_some (h : PE X e te) : PO X (some e) (tPart te) := by
  intro pins s σ H Q I hw
  rw [evalPart_some]
  refine thn (h pins s σ H _ I hw) fun u s1 ⟨x, H1, I1, r1, q1⟩ => ?_
  obtain ⟨i, rfl, q⟩ := q1
  obtain ⟨t, rfl⟩ := r1
  exact ⟨some i, H1, I1, .int i t, q⟩

/-- what a slice of a value is, by values: the slice object stands at sl -/
noncomputable def SlR (X : Cx) (r : V → Option Int → Option Int → Hp → VK → Prop) : Prop :=
  ∀ (pins : List (Addr × Obj)) (s : Shared) (σ : St) (H : Hp) (x : V) (v vl vu : Value) (lo hi : Option Int) (sl : Addr) (Q : VK), Inv X pins σ H s → RelV x v → s.heap.IsSliceOf sl vl vu .none → IsPart vl lo → IsPart vu hi → r x lo hi H Q →
    ∃ T id, typeLookup (.type T) "__getitem__" = pure (some (.builtin id)) ∧ s.TypeIs v T ∧ wpAny (model X.prog X.w) X.A (getItem v (.ref sl)) (EP X pins σ Q) X.xe s
noncomputable def tSl (r : V → Option Int → Option Int → Hp → VK → Prop) (te : TE) (tl th : TO) : TE := fun σ H Q => te σ H fun x H1 => tl σ H1 fun l H2 => th σ H2 fun u H3 => r x l u H3 Q
/-- a[lo:hi], any a -/
theorem pe_slice {r : V → Option Int → Option Int → Hp → VK → Prop} (hr : SlR X r) (he : PE X e te) (hl : PO X lo tl) (hu : PO X hi th) : PE X (.Subscript e (.Slice lo hi none p2) pos) (tSl r te tl th) := by
  intro pins s σ H Q I h
  refine Subscript_ (thn (he pins s σ H _ I h) fun v s1 ⟨x, H1, I1, r1, q1⟩ => ?_)
  refine wpAny_Slice (thn (hl pins s1 σ H1 _ I1 q1) fun vl s2 ⟨l, H2, I2, pl, q2⟩ => thn (hu pins s2 σ H2 _ I2 q2) fun vu s3 ⟨u, H3, I3, pu, q3⟩ => ?_)
  rw [evalPart_none]
  refine wpAny_pure ?_
  have I4 : Inv X pins σ H3 { s3 with heap := s3.heap.push { cls := .type "slice", data := .fields #[vl, vu, .none] } } := I3.kept (t' := s3.toks) fun b ob q => Heap.get?_push_of_some _ q
  obtain ⟨T, id, hT, ht, hg⟩ := hr pins { s3 with heap := s3.heap.push { cls := .type "slice", data := .fields #[vl, vu, .none] } } σ H3 x v vl vu l u s3.heap.objs.size Q I4 r1 (Heap.IsSliceOf.new ..) pl pu q3
  show wpAny (model X.prog X.w) X.A (subscriptTail e (.Slice lo hi none p2) v (.ref s3.heap.objs.size)) (EP X pins σ Q) X.xe { s3 with heap := s3.heap.push { cls := .type "slice", data := .fields #[vl, vu, .none] } }
  exact tail_any (ops := [.ref s3.heap.objs.size, v]) ht hT hg (by with_unfolding_all rfl)

/-- the items of xs[lo:hi] -/
noncomputable def cutV (xs : List V) (lo hi : Option Int) : List V := (xs.drop (HT.sIx xs.length 0 lo)).take (HT.sIx xs.length xs.length hi - HT.sIx xs.length 0 lo)
theorem cutV_length (xs : List V) (lo hi : Option Int) : (cutV xs lo hi).length ≤ xs.length := by
  unfold cutV
  rw [List.length_take, List.length_drop]
  omega
/-- t[lo:hi], not the whole of it (the whole would be t itself) -/
noncomputable def rSlT (K : PySem.W.Frag) : V → Option Int → Option Int → Hp → VK → Prop := fun x lo hi H Q => ∃ a xs, x = .ref a ∧ SqT K H a xs ∧
  ¬ (HT.sIx xs.length 0 lo = 0 ∧ HT.sIx xs.length xs.length hi = xs.length) ∧ ∀ p, H p = none → Q (.ref p) (upd H p (.tup (cutV xs lo hi)))
theorem sl_tup : SlR X (rSlT X.K) := by
  intro pins s σ H x v vl vu lo hi sl Q I rx hs pl pu h
  obtain ⟨a, xs, rfl, hx, hw, q⟩ := h
  cases rx
  obtain ⟨its, r, ht, hz⟩ := I.tuple hx
  have hlen : its.toArray.size = xs.length := by rw [List.size_toArray]; exact r.length.symm
  refine ⟨"tuple", _, PyProof.Rows.slot_tuple_getitem.lookup, ht.typeIs, ?_⟩
  refine HT.getItem_tuple_cut ht hs pl pu (by rw [hlen]; exact hw) ?_ (by rw [hlen]; exact hz)
  rw [hlen]
  refine ⟨.ref s.heap.objs.size, _, I.laid (t' := s.toks) (o := .tup (cutV xs lo hi)) (fun b ob q => Heap.get?_push_of_some _ q) (Nat.le_refl _) ?_, rfl, q _ (I.hok.fresh (Nat.le_refl _))⟩
  exact ⟨Nat.le_trans (cutV_length xs lo hi) hz, _, (r.drop (HT.sIx xs.length 0 lo)).take (HT.sIx xs.length xs.length hi - HT.sIx xs.length 0 lo), IsTup.new _ _⟩

/-! ### t < u, t + u -/
/-- t + u, t not empty: u empty gives t itself -/
noncomputable def rCatT (K : PySem.W.Frag) : R2 := fun x y H Q => ∃ a b xs ys, x = .ref a ∧ y = .ref b ∧ SqT K H a xs ∧ SqT K H b ys ∧ xs ≠ [] ∧ xs.length + ys.length ≤ sizeLine ∧
  (ys = [] → Q (.ref a) H) ∧ (ys ≠ [] → ∀ p, H p = none → Q (.ref p) (upd H p (.tup (xs ++ ys))))
theorem Vals.nil_iff {xs : List V} {us : List Value} (r : Vals xs us) : us = [] ↔ xs = [] := by
  cases r with
  | nil => simp
  | cons _ _ => simp
theorem op_catT : OpR X (binaryOp .Add) (rCatT X.K) := by
  intro pins s σ H x y v u Q I rx ry h
  obtain ⟨a, b, xs, ys, rfl, rfl, ha, hb, hx, hz, q1, q2⟩ := h
  cases rx
  cases ry
  obtain ⟨its, r1, p1, _⟩ := I.tuple ha
  obtain ⟨its2, r2, p2, _⟩ := I.tuple hb
  refine HT.cat_tup p1 p2 (fun z => hx (r1.nil_iff.mp z)) (fun z => ⟨.ref a, H, I, rfl, q1 (r2.nil_iff.mp z)⟩) (fun z => ?_) (by rw [← r1.length, ← r2.length]; exact hz)
  refine ⟨.ref s.heap.objs.size, _, I.laid (t' := s.toks) (o := .tup (xs ++ ys)) (fun b ob q => Heap.get?_push_of_some _ q) (Nat.le_refl _) ?_, rfl, q2 (fun w => z (r2.nil_iff.mpr w)) _ (I.hok.fresh (Nat.le_refl _))⟩
  exact ⟨by rw [List.length_append]; exact hz, _, r1.append r2, IsTup.new _ _⟩
end
end L2

namespace L2
open PySem PySem.Spec PyProof.Rows

/-! ### places -/
/-- the place that an index of any sign means -/
noncomputable def ixN (n : Nat) (i : Int) : Option Nat := if 0 ≤ i then (if i < n then some i.toNat else none) else if -(n : Int) ≤ i then some (i + n).toNat else none
noncomputable def atI {α : Type} (xs : List α) (i : Int) : Option α := (ixN xs.length i).bind fun j => xs[j]?
theorem ixN_seq {n : Nat} {i : Int} {j : Nat} (h : ixN n i = some j) : seqIndex? i n = some j ∧ j < n ∧ -(n : Int) ≤ i ∧ i < n := by
  unfold ixN at h
  by_cases h0 : 0 ≤ i
  · rw [if_pos h0] at h
    by_cases h1 : i < n
    · rw [if_pos h1] at h
      have e : i.toNat = j := Option.some.inj h
      exact ⟨by rw [seqIndex_of h0 h1, e], by omega, by omega, h1⟩
    · rw [if_neg h1] at h; cases h
  · rw [if_neg h0] at h
    by_cases h1 : -(n : Int) ≤ i
    · rw [if_pos h1] at h
      have e : (i + n).toNat = j := Option.some.inj h
      exact ⟨by rw [seqIndex_neg (by omega) h1, e], by omega, h1, by omega⟩
    · rw [if_neg h1] at h; cases h
theorem atI_get {α : Type} {xs : List α} {i : Int} {v : α} (h : atI xs i = some v) : ∃ j, seqIndex? i xs.length = some j ∧ xs[j]? = some v ∧ j < xs.length ∧ -(xs.length : Int) ≤ i ∧ i < xs.length := by
  unfold atI at h
  cases e : ixN xs.length i with
  | none => rw [e] at h; cases h
  | some j =>
    rw [e] at h
    obtain ⟨h1, h2, h3, h4⟩ := ixN_seq e
    exact ⟨j, h1, h, h2, h3, h4⟩
theorem atI_nat {α : Type} {xs : List α} {j : Nat} {v : α} (h : xs[j]? = some v) : atI xs (j : Int) = some v := by
  have hj : j < xs.length := (List.getElem?_eq_some_iff.mp h).1
  have e : ixN xs.length (j : Int) = some j := by
    unfold ixN
    rw [if_pos (by omega), if_pos (by omega)]; simp
  unfold atI; rw [e]; exact h
/-! ### what may be subscripted -/
/-- what stands as an index of a plain subscript -/
noncomputable def PlainIx (b : Expr) : Prop := ∀ o i, subscripted b false o i = operate [o, i] (getItem o i)
/-- a subscript by values -/
noncomputable def IxR (X : Cx) (r : R2) : Prop :=
  ∀ (value slice : Expr) (pins : List (Addr × Obj)) (s : Shared) (σ : St) (H : Hp) (x y : V) (v u : Value) (Q : VK), Inv X pins σ H s → RelV x v → RelV y u → r x y H Q →
    subscripted slice false v u = operate [v, u] (getItem v u) → wpAny (model X.prog X.w) X.A (subscriptTail value slice v u) (EP X pins σ Q) X.xe s
/-- a call of a builtin's method by values: the receiver, the arguments -/
noncomputable def MtR (X : Cx) (id : String) (r : V → List V → Hp → VK → Prop) : Prop :=
  ∀ (pins : List (Addr × Obj)) (s : Shared) (σ : St) (H : Hp) (x : V) (xs : List V) (v : Value) (us : List Value) (Q : VK), Inv X pins σ H s → RelV x v → Vals xs us → r x xs H Q →
    wpAny (model X.prog X.w) X.A (call (.builtin id) (v :: us)) (EP X pins σ Q) X.xe s
section
variable {X : Cx} {a b : Expr} {ta tb : TE} {pos : Pos}
theorem IxR.or {r r' : R2} (h : IxR X r) (h' : IxR X r') : IxR X (fun x y H Q => r x y H Q ∨ r' x y H Q) := by
  intro value slice pins s σ H x y v u Q I rx ry q hs
  rcases q with q | q
  · exact h value slice pins s σ H x y v u Q I rx ry q hs
  · exact h' value slice pins s σ H x y v u Q I rx ry q hs
/-- a[b] -/
theorem pe_ix {r : R2} (hr : IxR X r) (ha : PE X a ta) (hb : PE X b tb) (hs : PlainIx b) : PE X (.Subscript a b pos) (tOp r ta tb) := by
  intro pins s σ H Q I h
  exact Subscript_ (binT ha hb I h fun v u s2 x y H2 I2 rx ry q => hr a b pins s2 σ H2 x y v u Q I2 rx ry q (hs _ _))

noncomputable def rIxL (K : PySem.W.Frag) : R2 := fun x y H Q => ∃ p xs i v, x = .ref p ∧ y = .int i ∧ SqL K H p xs ∧ atI xs i = some v ∧ Q v H
noncomputable def rIxT (K : PySem.W.Frag) : R2 := fun x y H Q => ∃ p xs i v, x = .ref p ∧ y = .int i ∧ SqT K H p xs ∧ atI xs i = some v ∧ Q v H
noncomputable def rIxS : R2 := fun x y H Q => ∃ z i c, x = .str z ∧ y = .int i ∧ z.length ≤ sizeLine ∧ atI z.cps.toList i = some c ∧ Q (.str ⟨#[c]⟩) H
theorem ix_list : IxR X (rIxL X.K) := by
  intro value slice pins s σ H x y v u Q I rx ry h hs
  obtain ⟨p, xs, i, z, rfl, rfl, hq, he, q⟩ := h
  cases rx
  obtain ⟨t, rfl⟩ := ry
  obtain ⟨its, r, pl, hz⟩ := I.list hq
  obtain ⟨j, h1, h2, h3, h4, h5⟩ := atI_get he
  obtain ⟨w, ew, rw'⟩ := r.get h2
  have hl := r.length
  have hn := line63
  have fin : EP X pins σ Q w s := ⟨z, H, I, rw', q⟩
  by_cases h0 : 0 ≤ i
  · have hj : i.toNat = j := by
      rw [seqIndex_of h0 h5] at h1
      exact Option.some.inj h1
    exact item_listR pl.isList h0 (by omega) (by rw [hj]; simpa using ew) fin hs
  · have hj : (i + (its.toArray.size : Int)).toNat = j := by
      rw [seqIndex_neg (by omega) h4] at h1
      rw [List.size_toArray, ← hl]
      exact Option.some.inj h1
    exact subscriptTail_builtinR (x := w) pl.isList.typeIs slot_list_getitem.lookup
      (wpAny_getItem_list_neg (Q := fun r s' => r = w ∧ EP X pins σ Q r s') pl.isList (by omega) (by rw [List.size_toArray] <;> omega) (by omega) (by rw [hj]; simpa using ew) ⟨rfl, fin⟩) hs
theorem ix_tup : IxR X (rIxT X.K) := by
  intro value slice pins s σ H x y v u Q I rx ry h hs
  obtain ⟨p, xs, i, z, rfl, rfl, hq, he, q⟩ := h
  cases rx
  obtain ⟨t, rfl⟩ := ry
  obtain ⟨its, r, pl, hz⟩ := I.tuple hq
  obtain ⟨j, h1, h2, h3, h4, h5⟩ := atI_get he
  obtain ⟨w, ew, rw'⟩ := r.get h2
  have hl := r.length
  have hn := line63
  have fin : EP X pins σ Q w s := ⟨z, H, I, rw', q⟩
  exact subscriptTail_builtinR (x := w) pl.typeIs slot_tuple_getitem.lookup
    (getItem_tuple (j := j) (Q := fun r s' => r = w ∧ EP X pins σ Q r s') pl (by omega) (by omega) (by rw [List.size_toArray, ← hl]; exact h1) (by simpa using ew) ⟨rfl, fin⟩) hs
theorem ix_str : IxR X rIxS := by
  intro value slice pins s σ H x y v u Q I rx ry h hs
  obtain ⟨z, i, c, rfl, rfl, hz, he, q⟩ := h
  obtain ⟨t, rfl⟩ := rx
  obtain ⟨t', rfl⟩ := ry
  obtain ⟨j, h1, h2, h3, h4, h5⟩ := atI_get he
  have hl : z.cps.toList.length = z.length := by simp [Str.length]
  rw [hl] at h1 h4 h5
  have hn := line63
  exact tail_any (typeIs_str s z t) slot_str_getitem.lookup (getItem_str (c := c) (by
    have e1 : decide (i < -(2 ^ 63 : Int)) = false := decide_eq_false (by omega)
    have e2 : decide (i ≥ 2 ^ 63) = false := decide_eq_false (by omega)
    rw [e1, e2, Bool.or_false]) (by rw [h1]; simpa using h2) ⟨.str ⟨#[c]⟩, H, I.tok _, ⟨_, rfl⟩, q⟩) hs
/-- list, tuple or str -/
noncomputable def rIx (K : PySem.W.Frag) : R2 := fun x y H Q => rIxL K x y H Q ∨ rIxT K x y H Q ∨ rIxS x y H Q
theorem ix_seq : IxR X (rIx X.K) := ix_list.or (ix_tup.or ix_str)

/-! ### xs[i] = v, any sign -/
/-! ### slices -/
theorem slice_bounds (lo hi : Option Int) (n : Nat) : (sliceBounds lo hi none n).1 = ((HT.sIx n 0 lo : Nat) : Int) ∧ (sliceBounds lo hi none n).2.1 = ((HT.sIx n n hi : Nat) : Int) ∧ (sliceBounds lo hi none n).2.2 = 1 := by
  refine ⟨?_, ?_, rfl⟩
  · cases lo with
    | none => simp [sliceBounds, HT.sIx]
    | some i =>
      simp only [sliceBounds, HT.sIx, Option.getD_none, show (1 : Int) > 0 by decide, if_true]
      by_cases h : i < 0
      · simp only [h, if_true] <;> omega
      · simp only [h, if_false] <;> omega
  · cases hi with
    | none => simp [sliceBounds, HT.sIx]
    | some i =>
      simp only [sliceBounds, HT.sIx, Option.getD_none, show (1 : Int) > 0 by decide, if_true]
      by_cases h : i < 0
      · simp only [h, if_true] <;> omega
      · simp only [h, if_false] <;> omega
theorem slicePick_cut (its : List Value) (lo hi : Option Int) : slicePick its.toArray lo hi none = ((its.drop (HT.sIx its.length 0 lo)).take (HT.sIx its.length its.length hi - HT.sIx its.length 0 lo)).toArray := by
  obtain ⟨h1, h2, h3⟩ := slice_bounds lo hi its.toArray.size
  unfold slicePick
  rw [h1, h2, h3]
  simp only [sliceRange_one, pick_run, List.size_toArray] <;> rfl
/-- xs[lo:hi] of a list: a new list -/
noncomputable def rSlL (K : PySem.W.Frag) : V → Option Int → Option Int → Hp → VK → Prop := fun x lo hi H Q => ∃ a xs, x = .ref a ∧ SqL K H a xs ∧ ∀ p, H p = none → Q (.ref p) (upd H p (.lst (cutV xs lo hi)))
theorem sl_list : SlR X (rSlL X.K) := by
  intro pins s σ H x v vl vu lo hi sl Q I rx hs pl pu h
  obtain ⟨a, xs, rfl, hx, q⟩ := h
  cases rx
  obtain ⟨its, r, ht, hz⟩ := I.list hx
  have hlen := r.length
  refine ⟨"list", _, slot_list_getitem.lookup, ht.isList.typeIs, ?_⟩
  refine wpAny_getItem_list_slice ht.isList hs pl pu .none (by simp) ?_ (by rw [List.size_toArray] <;> omega)
  rw [slicePick_cut, ← hlen]
  refine ⟨.ref s.heap.objs.size, _, I.laid (t' := s.toks) (o := .lst (cutV xs lo hi)) (fun b ob q => Heap.get?_push_of_some _ q) (Nat.le_refl _) ?_, rfl, q _ (I.hok.fresh (Nat.le_refl _))⟩
  exact ⟨Nat.le_trans (cutV_length xs lo hi) hz, _, 0, (r.drop (HT.sIx xs.length 0 lo)).take (HT.sIx xs.length xs.length hi - HT.sIx xs.length 0 lo), Heap.get?_push_size _ rfl⟩

/-! ### in, not in: flat items -/
/-! ### len, list(x), tuple(x) of any list or tuple that is read -/
theorem call_len_seq : CallR X (.builtin "len") (fun xs H Q => ∃ p ys, xs = [.ref p] ∧ (SqL X.K H p ys ∨ SqT X.K H p ys) ∧ Q (.int ys.length) H) := by
  intro pins s σ H xs us Q I r h
  obtain ⟨p, ys, rfl, hq, q⟩ := h
  obtain ⟨u, rfl, rx⟩ := vals1 r
  cases rx
  have hn := line63
  rcases hq with hq | hq
  · obtain ⟨its, r', pl, hz⟩ := I.list hq
    have hlen := r'.length
    exact Calls.call_len_list pl.isList (by simp only [List.size_toArray] <;> omega) ⟨.int ys.length, H, I.tok _, ⟨s.toks + 1, by rw [List.size_toArray, hlen]⟩, q⟩
  · obtain ⟨its, r', pl, hz⟩ := I.tuple hq
    have hlen := r'.length
    exact len_tuple pl (by simp only [List.size_toArray] <;> omega) ⟨.int ys.length, H, I.tok _, ⟨s.toks + 1, by rw [List.size_toArray, hlen]⟩, q⟩
theorem call_list_of : CallR X (.type "list") (fun xs H Q => ∃ p ys, xs = [.ref p] ∧ (SqL X.K H p ys ∨ SqT X.K H p ys) ∧ ∀ l, H l = none → Q (.ref l) (upd H l (.lst ys))) := by
  intro pins s σ H xs us Q I r h
  obtain ⟨p, ys, rfl, hq, q⟩ := h
  obtain ⟨u, rfl, rx⟩ := vals1 r
  cases rx
  have fin : ∀ (its : List Value), Vals ys its → ys.length ≤ sizeLine → ∀ (h' : Heap) (c' : Nat), (∀ b o', s.heap.get? b = some o' → h'.get? b = some o') →
      h'.get? s.heap.objs.size = some { cls := .type "list", dict := none, data := .seq its.toArray c', slots := #[] } → EP X pins σ Q (.ref s.heap.objs.size) { s with heap := h' } := fun its r' hz h' c' kp e =>
    ⟨.ref s.heap.objs.size, _, I.laid (t' := s.toks) kp (Nat.le_refl _) (show ObjOk X.prog X.w _ h' _ (.lst ys) from ⟨hz, its, c', r', e⟩), rfl, q _ (I.hok.fresh (Nat.le_refl _))⟩
  rcases hq with hq | hq
  · obtain ⟨its, r', pl, hz⟩ := I.list hq
    have hlen := r'.length
    obtain ⟨o, ho, hc, n, hd⟩ := pl.isList
    exact call_list_seq p (.inl rfl) ho hc hd (fun h' c' kp e => fin its r' hz h' c' kp e) (by simp only [List.size_toArray] <;> omega)
  · obtain ⟨its, r', pl, hz⟩ := I.tuple hq
    have hlen := r'.length
    obtain ⟨o, ho, hc, n, hd⟩ := pl
    exact call_list_seq p (.inr rfl) ho hc hd (fun h' c' kp e => fin its r' hz h' c' kp e) (by simp only [List.size_toArray] <;> omega)
theorem call_tuple_of : CallR X (.type "tuple") (fun xs H Q => ∃ p ys, xs = [.ref p] ∧ ((SqL X.K H p ys ∧ ∀ l, H l = none → Q (.ref l) (upd H l (.tup ys))) ∨ (SqT X.K H p ys ∧ Q (.ref p) H))) := by
  intro pins s σ H xs us Q I r h
  obtain ⟨p, ys, rfl, h⟩ := h
  obtain ⟨u, rfl, rx⟩ := vals1 r
  cases rx
  rcases h with ⟨hq, q⟩ | ⟨hq, q⟩
  · obtain ⟨its, r', pl, hz⟩ := I.list hq
    have hlen := r'.length
    refine call_tuple_list pl.isList (fun h' kp => ?_) (by simp only [List.size_toArray] <;> omega)
    have I1 : Inv X pins σ H { s with heap := h' } := I.kept (t' := s.toks) kp
    have I2 : Inv X pins σ (upd H h'.objs.size (.tup ys)) { s with heap := h'.push { cls := .type "tuple", data := .seq its.toArray } } :=
      I1.laid (t' := s.toks) (fun b o e => Heap.get?_push_of_some _ e) (Nat.le_refl _) (show ObjOk X.prog X.w _ _ _ (.tup ys) from ⟨hz, its, r', IsTup.new _ _⟩)
    exact ⟨.ref h'.objs.size, _, I2, rfl, q _ (I1.hok.fresh (Nat.le_refl _))⟩
  · obtain ⟨its, r', pl, hz⟩ := I.tuple hq
    exact call_tuple_same pl ⟨.ref p, H, I, rfl, q⟩

/-! ### the call of a builtin's method: o.m(..) -/
/-- the value is of that builtin type -/
noncomputable def tyV (K : PySem.W.Frag) (T : String) (x : V) (H : Hp) : Prop := match x with
  | .str _ => T = "str"
  | .int _ => T = "int"
  | .ref p => (T = "list" ∧ ∃ xs, SqL K H p xs) ∨ (T = "tuple" ∧ ∃ o, K.lookup p = some o ∧ o.cls = .type "tuple" ∧ o.dict = none) ∨
      (T = "dict" ∧ ((∃ kvs, H p = some (.dK kvs)) ∨ ∃ kvs, H p = some (.dT kvs))) ∨ (T = "set" ∧ ∃ S n, H p = some (.set S n))
  | _ => False
theorem tyV_is {pins : List (Addr × Obj)} {σ : St} {H : Hp} {s : Shared} {T : String} {x : V} {v : Value} (I : Inv X pins σ H s) (r : RelV x v) (ty : tyV X.K T x H) :
    s.TypeIs v T ∧ ∀ a, v = .ref a → ∃ ob, s.heap.get? a = some ob ∧ ob.dict = none := by
  cases x with
  | str z =>
    obtain ⟨t, rfl⟩ := r
    cases (show T = "str" from ty)
    exact ⟨typeIs_str s z t, fun _ e => nomatch e⟩
  | int i =>
    obtain ⟨t, rfl⟩ := r
    cases (show T = "int" from ty)
    exact ⟨typeIs_int s i t, fun _ e => nomatch e⟩
  | ref p =>
    cases r
    rcases ty with ⟨rfl, xs, hq⟩ | ⟨rfl, o, hk, hc, hd⟩ | ⟨rfl, hk⟩ | ⟨rfl, S, n, hk⟩
    · obtain ⟨its, _, pl, _⟩ := I.list hq
      refine ⟨pl.isList.typeIs, fun a e => ?_⟩
      cases e
      obtain ⟨o, n, e, c, hd, _⟩ := pl
      exact ⟨o, e, hd⟩
    · refine ⟨⟨o, I.kIn p o hk, hc⟩, fun a e => ?_⟩
      cases e
      exact ⟨o, I.kIn _ o hk, hd⟩
    · have z : ∃ o, s.heap.get? p = some o ∧ o.ExactDict := by
        rcases hk with ⟨kvs, hk⟩ | ⟨kvs, hk⟩
        · obtain ⟨_, _, _, _, o, _, _, e, ex, _⟩ := I.hok p _ hk
          exact ⟨o, e, ex⟩
        · obtain ⟨_, _, _, _, o, _, _, e, ex, _⟩ := I.hok p _ hk
          exact ⟨o, e, ex⟩
      obtain ⟨o, e, ex⟩ := z
      refine ⟨⟨o, e, ex.1⟩, fun a e2 => ?_⟩
      cases e2
      exact ⟨o, e, ex.2.1⟩
    · obtain ⟨o, _, _, _, e, ex, _⟩ := I.hok p _ hk
      refine ⟨⟨o, e, ex.1⟩, fun a e2 => ?_⟩
      cases e2
      exact ⟨o, e, ex.2.1⟩
  | _ => exact False.elim ty
noncomputable def tBM0 (K : PySem.W.Frag) (T : String) (r : V → List V → Hp → VK → Prop) (to : TE) : TE := fun σ H Q => to σ H fun x H1 => tyV K T x H1 ∧ r x [] H1 Q
noncomputable def tBM (K : PySem.W.Frag) (T : String) (r : V → List V → Hp → VK → Prop) (to : TE) (t : TA) : TE := fun σ H Q => to σ H fun x H1 => tyV K T x H1 ∧ t σ H1 fun xs H2 => r x xs H2 Q
variable {o e : Expr} {es : List Expr} {to : TE} {t : TA} {name : Str} {apos cpos : Pos} {T id : String} {r : V → List V → Hp → VK → Prop}
theorem pe_bm0 (pa : PlainAttrs T) (slot : Slot T name id) (hty : typeOf (.builtin id) = pure (.type "method_descriptor")) (hm : MtR X id r) (ho : PE X o to)
    (hbase : attributeBase o name X.env (eval o X.env) = eval o X.env := by rfl) (hline : (apos.endLine == cpos.line) = true := by rfl) : PE X (.Call (.Attribute o name apos) [] [] cpos) (tBM0 X.K T r to) := by
  intro pins s σ H Q I h
  refine wpAny_Call_method0_late hbase hline (thn (ho pins s σ H _ I h) fun v s1 ⟨x, H1, I1, r1, ty, q1⟩ => ?_)
  obtain ⟨h1, h2⟩ := tyV_is I1 r1 ty
  exact ⟨T, id, pa, slot, hty, h1, h2, Calls.callWith_builtin rfl (PySem.evalArgs_none (hm pins s1 σ H1 x [] v [] Q I1 r1 .nil q1))⟩
theorem pe_bm (pa : PlainAttrs T) (slot : Slot T name id) (hty : typeOf (.builtin id) = pure (.type "method_descriptor")) (hm : MtR X id r) (ho : PE X o to) (ha : PA X (e :: es) t)
    (hbase : attributeBase o name X.env (eval o X.env) = eval o X.env := by rfl)
    (hfew : ((backTo cpos (starEach (e :: es) X.env)).all (fun x => !x.1) && (backToKw cpos (keywordEach [] X.env)).all (fun x => x.1.isSome)
      && decide ((e :: es).length + ([] : List Keyword).length + (if ([] : List Keyword).isEmpty then 0 else 1) < 30)) = true := by rfl)
    (hline : (apos.endLine == cpos.line) = true := by rfl) (hs : starEach (e :: es) X.env = (false, eval e X.env) :: starEach es X.env := by rfl) (hplain : (backTo cpos (starEach es X.env)).any (·.1) = false := by rfl) :
    PE X (.Call (.Attribute o name apos) (e :: es) [] cpos) (tBM X.K T r to t) := by
  intro pins s σ H Q I h
  refine wpAny_Call_method_late hbase hfew hline rfl (thn (ho pins s σ H _ I h) fun v s1 ⟨x, H1, I1, r1, ty, q1⟩ => ?_)
  obtain ⟨h1, h2⟩ := tyV_is I1 r1 ty
  refine ⟨T, id, pa, slot, hty, h1, h2, ?_⟩
  have hA := ha cpos pins s1 σ H1 _ I1 q1
  rw [hs] at hA ⊢
  refine Calls.callWith_builtin (by show (false || (backTo cpos (starEach es X.env)).any (·.1)) = false; rw [hplain] <;> rfl) (Calls.evalArgs_plain ?_)
  exact thn hA fun us s2 ⟨vs, H2, I2, r2, q2⟩ => hm pins s2 σ H2 x vs v us Q I2 r1 r2 q2
/- xs.append(e), list.index on a module's tuple .. are MtR facts of 06m -/
end
end L2

namespace L2
open PySem PySem.Spec PyProof.Rows

noncomputable def MtM (X : Cx) (id : String) (r : V → List V → Hp → VK → Prop) : Prop :=
  ∀ (pins : List (Addr × Obj)) (s : Shared) (σ : St) (H : Hp) (x : V) (xs : List V) (v : Value) (us : List Value) (Q : VK), Inv X pins σ H s → RelV x v → Vals xs us → r x xs H Q →
    wpAny (model X.prog X.w) X.A (call (.builtin id) (v :: us)) (EP X pins σ Q) X.xe s

/-! ### lists of values -/
theorem Vals.one {x : V} {us : List Value} (h : Vals [x] us) : ∃ u, us = [u] ∧ RelV x u := by
  cases h with
  | cons r t => cases t; exact ⟨_, rfl, r⟩
theorem Vals.two {x y : V} {us : List Value} (h : Vals [x, y] us) : ∃ u v, us = [u, v] ∧ RelV x u ∧ RelV y v := by
  cases h with
  | cons r t =>
    cases t with
    | cons q t => cases t; exact ⟨_, _, rfl, r, q⟩
theorem Vals.zero : ∀ {us : List Value}, Vals [] us → us = []
  | _, .nil => rfl
theorem Vals.dropLast {xs : List V} {us : List Value} (h : Vals xs us) : Vals xs.dropLast us.dropLast := by
  induction h with
  | nil => exact .nil
  | cons r t ih =>
    cases t with
    | nil => exact .nil
    | cons q t' => exact .cons r ih
theorem Vals.reverse {xs : List V} {us : List Value} (h : Vals xs us) : Vals xs.reverse us.reverse := by
  induction h with
  | nil => exact .nil
  | cons r t ih => rw [List.reverse_cons, List.reverse_cons]; exact Vals.append ih (.cons r .nil)
theorem erase_last {α : Type} (l : List α) : l.eraseIdx (l.length - 1) = l.dropLast := by
  induction l with
  | nil => rfl
  | cons a r ih =>
    cases r with
    | nil => rfl
    | cons b r =>
      have e : (a :: b :: r).length - 1 = ((b :: r).length - 1) + 1 := by
        have h1 : (a :: b :: r).length = r.length + 2 := rfl
        have h2 : (b :: r).length = r.length + 1 := rfl
        omega
      rw [e, List.eraseIdx_cons_succ, ih]
      all_goals rfl
section
variable {X : Cx} {pins : List (Addr × Obj)} {σ : St} {H : Hp} {s : Shared} {l b : Addr} {xs ys zs : List V}

/-! ### the two steps: a tracked list is rewritten, a new list is laid -/
theorem Inv.lset {its its' : List Value} {n : Nat} {f : Array Value → Array Value} {t' : Nat} (I : Inv X pins σ H s) (hH : H l = some (.lst xs))
    (e : s.heap.get? l = some { cls := .type "list", data := .seq its.toArray n }) (hf : f its.toArray = its'.toArray) (hv : Vals ys its') (hz : ys.length ≤ sizeLine) :
    Inv X pins σ (upd H l (.lst ys)) { s with heap := s.heap.update l (Obj.mapSeq f), toks := t' } := by
  have q := PySem.IsL.update e f
  rw [hf] at q
  refine I.write (x := l) (e := l) (by rw [hH]; exact trivial) (.inl rfl) (fun b' u hb hu => (Heap.get?_update_other s.heap (Obj.mapSeq f) (Ne.symm hb)).trans hu) ⟨_, q⟩ ?_
  exact ⟨hz, its', _, hv, q⟩
theorem Inv.lnew {its : List Value} {t' : Nat} (I : Inv X pins σ H s) (hv : Vals ys its) (hz : ys.length ≤ sizeLine) :
    Inv X pins σ (upd H s.heap.objs.size (.lst ys)) { s with heap := s.heap.push { cls := .type "list", data := .seq its.toArray }, toks := t' } :=
  I.laid (fun _ _ q => Heap.get?_push_of_some _ q) (Nat.le_refl _) ⟨hz, its, 0, hv, Heap.get?_push_size _ rfl⟩
theorem Inv.fresh (I : Inv X pins σ H s) : H s.heap.objs.size = none := I.hok.fresh (Nat.le_refl _)
theorem Inv.lstM (I : Inv X pins σ H s) (hH : H l = some (.lst xs)) : xs.length ≤ sizeLine ∧ ∃ (its : List Value) (n : Nat), Vals xs its ∧ xs.length = its.length ∧ s.heap.get? l = some { cls := .type "list", data := .seq its.toArray n } := by
  obtain ⟨z, its, n, r, e⟩ := I.hok l _ hH
  exact ⟨z, its, n, r, r.length, e⟩

end

section
variable {X : Cx}

/-! ### methods -/
noncomputable def rAppend : V → List V → Hp → VK → Prop := fun x vs H Q => ∃ l xs y, x = .ref l ∧ vs = [y] ∧ H l = some (.lst xs) ∧ xs.length < sizeLine ∧ Q .non (upd H l (.lst (xs ++ [y])))
theorem mt_append : MtM X "list.append" rAppend := by
  intro pins s σ H x vs v us Q I rx rv h
  obtain ⟨l, xs, y, rfl, rfl, hH, hz, q⟩ := h
  cases rx
  obtain ⟨u, rfl, ru⟩ := rv.one
  obtain ⟨z, its, n, r, hl, e⟩ := I.lstM hH
  refine call_meets F.slot_list_append ⟨_, e, rfl⟩ F.entry_list_append (F.args_list_append_2 _ _) (PySem.list_append l its.toArray n u (by rw [List.size_toArray]; omega)) ⟨e, ?_⟩
  refine ⟨.non, _, I.lset (its' := its ++ [u]) hH e (by simp) (r.append (.cons ru .nil)) ?_, rfl, q⟩
  rw [List.length_append, List.length_singleton]
  omega

noncomputable def rPop : V → List V → Hp → VK → Prop := fun x vs H Q => ∃ l xs y, x = .ref l ∧ vs = [] ∧ H l = some (.lst xs) ∧ xs[xs.length - 1]? = some y ∧ Q y (upd H l (.lst xs.dropLast))
theorem mt_pop : MtM X "list.pop" rPop := by
  intro pins s σ H x vs v us Q I rx rv h
  obtain ⟨l, xs, y, rfl, rfl, hH, hy, q⟩ := h
  cases rx
  have hus := rv.zero
  subst hus
  obtain ⟨z, its, n, r, hl, e⟩ := I.lstM hH
  obtain ⟨u, hu, ru⟩ := r.get hy
  have hy' : its.toArray[its.toArray.size - 1]? = some u := by
    show its.toArray[its.length - 1]? = some u
    rw [← Array.getElem?_toList, ← hl]
    exact hu
  refine call_meets F.slot_list_pop ⟨_, e, rfl⟩ F.entry_list_pop (F.args_list_pop_1 _) (MeetsSeq.list_pop_last l its.toArray n u hy' (by rw [List.size_toArray]; omega)) ⟨e, ?_⟩
  refine ⟨y, _, I.lset (its' := its.dropLast) hH e ?_ r.dropLast ?_, ru, q⟩
  · show its.toArray.eraseIdxIfInBounds (its.toArray.size - 1) = its.dropLast.toArray
    rw [List.size_toArray, List.eraseIdxIfInBounds_toArray, erase_last]
  · rw [List.length_dropLast]
    omega

noncomputable def rReverse : V → List V → Hp → VK → Prop := fun x vs H Q => ∃ l xs, x = .ref l ∧ vs = [] ∧ H l = some (.lst xs) ∧ Q .non (upd H l (.lst xs.reverse))
theorem mt_reverse : MtM X "list.reverse" rReverse := by
  intro pins s σ H x vs v us Q I rx rv h
  obtain ⟨l, xs, rfl, rfl, hH, q⟩ := h
  cases rx
  have hus := rv.zero
  subst hus
  obtain ⟨z, its, n, r, hl, e⟩ := I.lstM hH
  refine call_meets F.slot_list_reverse ⟨_, e, rfl⟩ F.entry_list_reverse (F.args_list_reverse_1 _) (AutoSeq1.list_reverse_list_0 l its.toArray n (by rw [List.size_toArray]; omega)) ⟨e, ?_⟩
  refine ⟨.non, _, I.lset (its' := its.reverse) hH e (by simp) r.reverse ?_, rfl, q⟩
  rw [List.length_reverse]
  omega

/-! ### list + list, list += list, list * int -/
noncomputable def rCat : R2 := fun x y H Q => ∃ l b xs zs, x = .ref l ∧ y = .ref b ∧ H l = some (.lst xs) ∧ H b = some (.lst zs) ∧ xs.length + zs.length ≤ sizeLine ∧ ∀ p, H p = none → Q (.ref p) (upd H p (.lst (xs ++ zs)))
theorem op_cat : OpR X (binaryOp .Add) rCat := by
  intro pins s σ H x y v u Q I rx ry h
  obtain ⟨l, b, xs, zs, rfl, rfl, hH, hB, hz, q⟩ := h
  cases rx
  cases ry
  obtain ⟨z, its, n, r, hl, e⟩ := I.lstM hH
  obtain ⟨z2, its2, n2, r2, hl2, e2⟩ := I.lstM hB
  refine PySem.P.add_list e e2 ?_ (by rw [List.size_toArray, List.size_toArray]; omega)
  have ea : its.toArray ++ its2.toArray = (its ++ its2).toArray := by simp
  rw [ea]
  exact ⟨.ref _, _, I.lnew (t' := s.toks) (r.append r2) (by rw [List.length_append]; omega), rfl, q _ I.fresh⟩
/-! ### del xs[i] -/
end

/-! ### xs[a:b] = ys -/
section
variable {prog : Program} {w : World} {A : Around} {E : Value → Shared → Prop} {s : Shared}
set_option maxRecDepth 100000 in
end

section
variable {X : Cx}
end
end L2

namespace Att
open PySem PySem.W PySem.Calls PyProof.Rows

/-! ### the script -/
theorem ints_of_wellAll {P : Params} {h : Heap} : ∀ (ns : List Int) (vs : List Value), WellAll P h vs (ns.map WData.int) → IntsAre vs ns := by
  intro ns
  induction ns with
  | nil =>
    intro vs w
    rw [List.map_nil] at w
    cases w
    exact .nil
  | cons n ns ih =>
    intro vs w
    rw [List.map_cons] at w
    cases w with
    | cons a b =>
      cases a
      exact .cons _ _ (ih _ b)

theorem script_of {l : OpenLaw} {n : Nat} (hn : l.most = some n) {P : Params} {h : Heap} {args : List WData} {vals : List Value}
    (hpre : l.row.toRowW.claim.pre args = true) (hwl : WellAll P h vals args) :
    ∃ a vs ns, vals = [Value.ref a] ∧ args = [WData.list (ns.map WData.int)] ∧ h.get? a = some { cls := .type "list", data := .seq vs.toArray } ∧ IntsAre vs ns ∧ ns.length ≤ n := by
  have hsh : WShape.hasAll [] args [.list .int] = true := (pre_splitW hpre).1
  have hc : l.pre.holds [] { args := args } = true := (pre_splitW hpre).2
  obtain ⟨d, r, rfl, h1, h2⟩ := hasAllW_cons hsh
  obtain rfl := hasAllW_nil h2
  obtain ⟨xs, rfl, h3⟩ := hasW_list h1
  obtain ⟨ns, rfl⟩ := items_int h3
  have hlen : ns.length ≤ n := by
    unfold OpenLaw.pre at hc
    have h4 : (WTm.not (.lt (.lit (.int (n : Int))) (.len (.arg 0)))).holds [] { args := [.list (ns.map .int)] } = true := by
      have h4 := (holds_andW hc).1
      rw [hn] at h4
      exact h4
    have h5 := condW_of h4 (w_not (w_lt w_lit (w_len_list (w_arg rfl))))
    rw [List.length_map] at h5
    refine Nat.le_of_not_lt fun q => ?_
    have q' : (n : Int) < ((ns.length : Nat) : Int) := by omega
    first
      | (rw [decide_eq_true q'] at h5; exact absurd h5 (by decide))
      | (simp at h5; omega)
  cases hwl with
  | cons w1 w2 =>
    cases w2
    cases w1 with
    | list ho hall => exact ⟨_, _, ns, rfl, rfl, ho, ints_of_wellAll ns _ hall, hlen⟩

theorem post_true (l : OpenLaw) (args : List WData) : l.row.toRowW.claim.post args (.bool true) args = true :=
  postW_of (r := l.row.toRowW) (X := (true == true))
    (show WShape.has [] (.bool true) .bool = true by first | rfl | decide | simp [WShape.has, WShape.arms, WShape.armsAll])
    (show (WTm.eq .res (.lit (.bool true))).value [] { args := args, res := some (.bool true), after := args } = some (.bool (true == true)) from w_eq_bool (w_res rfl) w_lit) rfl

/-! ### the attachment: holds_open's last premise (the goal 'hc' behind k_head) from a wpAny of the law's body -/
/-- the same from a codeAny of the CALL (for a layer whose function contracts speak of calls) -/
theorem attach_call {l : OpenLaw} {n : Nat} {q : Program} {loose : List Str} {XP : (Str → Option Value) → Heap → Prop} {YP : World → Heap → Prop} {d : DefRec}
    (hn : l.most = some n) (hdf : d.params.defaults = [])
    (call : ∀ (w : World) (s₀ s₁ : Shared) (mg mb : Str → Option Value) (fa : Addr) (o : Obj) (pm cd doc : Value) (a : Addr) (vs : List Value) (ns : List Int),
      Ground q loose [] XP w s₀ mg mb s₁.heap → YP w s₁.heap →
      s₁.heap.get? fa = some o → o.data = .func (docDef d.name d.params d.body d.scope pm cd doc) → s₁.heap.CodeRec cd d.name → mg d.name = some (.ref fa) →
      s₁.heap.get? a = some { cls := .type "list", data := .seq vs.toArray } → IntsAre vs ns → ns.length ≤ n → s₁.gens = #[] →
      codeAny (model l.prog w) callerA (.call (.ref fa) ⟨[.ref a], []⟩) (fun r s' => r = .ok (.ret (.bool true)) ∧ OldK s₁.heap s'.heap ∧ s'.os = s₁.os ∧ AllBare s'.gens) s₁) :
    WalkO q loose XP YP l.row.toRowW d [] (fun f vs => PySem.call f vs) := by
  intro w s₀ s₁ mg mb G Y fa o pm cd doc dV kV ho hd hcd hD hmg hg args vals as hpre hlay hrd hwl hlo
  obtain rfl : dV = .none := Dflts.none hD hdf
  obtain rfl : kV = .none := Dflts.noKw hD
  obtain ⟨a, vs, ns, rfl, rfl, hobj, hints, hlen⟩ := script_of hn hpre hwl
  refine enter_call (codeAny_mono (call w s₀ s₁ mg mb fa o pm cd doc a vs ns G Y ho (fd_plain hd) hcd hmg hobj hints hlen hg) fun r s' hq => ?_)
  obtain ⟨rfl, h2, h3, h4⟩ := hq
  exact ⟨.inl ⟨.bool true, .bool true, [], rfl, fun _ => rfl, .bool true, post_true l _, fun _ => ⟨List.Pairwise.nil, fun _ hm => (nomatch hm)⟩⟩, h2, h3, h4⟩

/-! ### rules over ANY heap (no ledger) from facts about the written part K: the library's own take a ledger (News) for what they write -/
section
variable {prog : Program} {w : World} {A : Around} {E : Value → Shared → Prop} {s : Shared} {K : Frag}

/-! the whole heap as the ledger: makes every rule that writes through a ledger a rule over any heap -/
end
end Att

namespace L2
open PySem PySem.Spec PyProof.Rows

theorem vals_ints : ∀ {vs : List Value} {ns : List Int}, IntsAre vs ns → Vals (ns.map V.int) vs
  | _, _, .nil => .nil
  | _, _, .cons n t h => .cons ⟨t, rfl⟩ (vals_ints h)

/-- nothing is tracked but the script, known to the object (or it is an object of the module) -/
noncomputable def Only (H : Hp) : Prop := ∀ b, H b = none ∨ ∃ o xs, H b = some (.frz o (.lst xs))

/-- THE HEAD: the law's promise, at the heap behind the top. F, the promise of the law's def, may use that base is part of the heap (so K.In base, base.Ns mainGlobals mg stand in Mod) -/
theorem law_call {P : Program} {w : World} {K : PySem.W.Frag} {mg mb : Str → Option Value} {CX : CXT} {k : Nat} {fa a : Addr} {fd : FuncData} {x : Str} {sp : Sp} {s₁ : Shared} {vs : List Value} {ns : List Int}
    (KX : K.In s₁.heap) (hns : s₁.heap.Ns mainGlobals mg) (hb : s₁.heap.Ns builtinsNs mb) (hbb : ∀ x : Str, x ≠ "__name__" → mb x = bootBuiltins x) (hlim : s₁.heap.NoLimit) (hg : s₁.gens = #[])
    (ha : s₁.heap.get? a = some { cls := .type "list", data := .seq vs.toArray }) (hi : IntsAre vs ns) (hl : ns.length ≤ sizeLine) (hr : Room k callerA)
    (F : ∀ base : Heap, K.In base → base.Ns mainGlobals mg → FnOk P w K mg base CX k fa fd [x] sp) (hbind : ∀ (s : Shared) (u : Value), BindsTo s fd ⟨[u], []⟩ [(x, u)])
    (hsp : ∀ H : Hp, Only H → SqL K H a (ns.map V.int) → sp [.ref a] H (fun v _ => v = .bl true) fun _ _ _ => False)
    (hCX : ∀ H e s', CX [] H s₁ (fun _ _ _ => False) e s' → False) :
    codeAny (model P w) callerA (.call (.ref fa) ⟨[.ref a], []⟩) (fun r s' => r = .ok (.ret (.bool true)) ∧ OldK s₁.heap s'.heap ∧ s'.os = s₁.os ∧ AllBare s'.gens) s₁ := by
  have rv := vals_ints hi
  have lenV := hi.length
  -- from an abstract heap in which nothing but the script may be tracked
  have core : ∀ H : Hp, Only H → SqL K H a (ns.map V.int) → HOk P w H s₁.heap → (∀ b, H b ≠ none → b = a) → (H a ≠ none → K.lookup a = none) →
      codeAny (model P w) callerA (.call (.ref fa) ⟨[.ref a], []⟩) (fun r s' => r = .ok (.ret (.bool true)) ∧ OldK s₁.heap s'.heap ∧ s'.os = s₁.os ∧ AllBare s'.gens) s₁ := by
    intro H hO hS hok hA hK
    have base_of : ∀ {b : Addr} {o : Obj}, s₁.heap.get? b = some o → H b = none → (hidT s₁.heap H).get? b = some o := fun e n => hidT_get e n
    have noA : ∀ {b : Addr} {o : Obj} {es : Array DictEntry} {ep : Nat}, s₁.heap.get? b = some o → o.data = .dict es ep → H b = none := fun {b o es ep} e d => by
      cases q : H b with
      | none => rfl
      | some u =>
        have e' : b = a := hA b (by rw [q]; simp)
        subst e'
        rw [ha] at e; cases e
        have d' : Data.seq vs.toArray _ = Data.dict es ep := d
        cases d'
    have nsK : ∀ {b : Addr} {m : Str → Option Value}, s₁.heap.Ns b m → (hidT s₁.heap H).Ns b m := fun {b m} ⟨o, es, ep, e, d, r⟩ => ⟨o, es, ep, base_of e (noA e d), d, r⟩
    have hKb : K.In (hidT s₁.heap H) := fun b o e => base_of (KX b o e) (by
      cases q : H b with
      | none => rfl
      | some u =>
        have e' : b = a := hA b (by rw [q]; simp)
        subst e'
        rw [hK (by rw [q]; simp)] at e; cases e)
    have hM : Mod K mg (hidT s₁.heap H) := ⟨hKb, nsK hns, ⟨mb, nsK hb, hbb⟩, let ⟨mc, h1, h2⟩ := hlim; ⟨mc, nsK h1, h2⟩⟩
    have e0 : Env0 P w K mg (hidT s₁.heap H) callerA [] s₁ H := ⟨rfl, hM, fun b o e => of_hidT e, Nat.le_of_eq (hidT_size _ _), trivial, fun b hb => absurd (show b ∈ ([] : List Addr) from hb) (by simp), hok, .of_eq hg⟩
    refine codeAny_mono ((F _ hKb (nsK hns)).run callerA [] s₁ H ⟨[.ref a], []⟩ [.ref a] [.ref a] _ _ hr e0 (hbind s₁ (.ref a)) (.cons rfl .nil) (hsp H hO hS)) fun r s' h => ?_
    cases r with
    | error e => exact (hCX H e s' h).elim
    | ok fl =>
      cases fl with
      | next => exact False.elim h
      | brk => exact False.elim h
      | cont => exact False.elim h
      | ret u =>
        obtain ⟨v, H', os, bare, un, hok', r', q⟩ := h
        have q' : v = .bl true := q
        subst q'
        obtain rfl : u = Value.bool true := r'
        refine ⟨rfl, OldK.of_keep fun b o e => ?_, os, bare⟩
        cases q : H b with
        | none => exact un.keep b o e q (by intro z; exact absurd (show b ∈ ([] : List Addr) from z) (by simp)) (by simp)
        | some u =>
          rcases hO b with z | ⟨ob, xs, z⟩
          · rw [q] at z; cases z
          · have z2 := un.frzs b ob _ z
            obtain ⟨e1, _⟩ := hok b _ z
            obtain ⟨e2, _⟩ := hok' b _ z2
            rw [e] at e1; cases e1
            exact e2
  cases hk : K.lookup a with
  | some o =>
    -- the script is one of the module's own objects
    have e := KX a o hk
    rw [ha] at e
    cases e
    refine core (fun _ => none) (fun _ => .inl rfl) (.inr ⟨_, vs.toArray, _, hk, rfl, rfl, rfl, by rw [List.size_toArray, lenV]; exact hl, by simpa using rv⟩) (fun b u z => by have z' : (none : Option HO) = some u := z; cases z') (fun b z => absurd rfl z) fun z => absurd rfl z
  | none =>
    refine core (fun b => if b = a then some (.frz { cls := .type "list", data := .seq vs.toArray } (.lst (ns.map V.int))) else none) (fun b => ?_) (.inl (.inr ⟨{ cls := .type "list", data := .seq vs.toArray }, if_pos rfl⟩)) (fun b u z => ?_) (fun b z => ?_) fun _ => hk
    · by_cases hb : b = a
      · exact .inr ⟨_, _, if_pos hb⟩
      · exact .inl (if_neg hb)
    · by_cases hb : b = a
      · have z' := (if_pos hb).symm.trans z
        cases z'
        subst hb
        exact ⟨ha, by rw [List.length_map]; exact hl, vs, _, rv, ha⟩
      · have z' := (if_neg hb).symm.trans z
        cases z'
    · by_cases hb : b = a
      · exact hb
      · exact absurd (if_neg hb) z
end L2

namespace L2
open PySem PySem.Spec PyProof.Rows

/-- the goal that k_head leaves (case hc), from the law's promise. F gives the function object fd (K's own) once, then the promise over every base -/
theorem walk_of {l : PySem.W.OpenLaw} {n k : Nat} {q : Program} {loose : List Str} {XP : (Str → Option Value) → Heap → Prop} {YP : World → Heap → Prop} {d : DefRec} {K : Params → PySem.W.Frag} {CX : World → CXT} {sp : World → Sp} {x : Str}
    (hn : l.most = some n) (hn2 : n ≤ sizeLine) (hdf : d.params.defaults = []) (hr : Room k callerA)
    (hY : ∀ (w : World) (h : Heap), YP w h → (K w.params).In h)
    (F : ∀ (w : World) (mg : Str → Option Value) (fa : Addr) (h : Heap), (K w.params).In h → h.Ns mainGlobals mg → mg d.name = some (.ref fa) →
      ∃ fd : FuncData, (∀ (s : Shared) (u : Value), BindsTo s fd ⟨[u], []⟩ [(x, u)]) ∧
        ∀ base : Heap, (K w.params).In base → base.Ns mainGlobals mg → FnOk l.prog w (K w.params) mg base (CX w) k fa fd [x] (sp w))
    (hsp : ∀ (w : World) (H : Hp) (a : Addr) (ns : List Int), ns.length ≤ n → Only H → SqL (K w.params) H a (ns.map V.int) → sp w [.ref a] H (fun v _ => v = .bl true) fun _ _ _ => False)
    (hCX : ∀ (w : World) (H : Hp) (s : Shared) (e : Value) (s' : Shared), CX w [] H s (fun _ _ _ => False) e s' → False) :
    PySem.W.WalkO q loose XP YP l.row.toRowW d [] (fun f vs => PySem.call f vs) := by
  refine Att.attach_call hn hdf fun w s₀ s₁ mg mb fa o pm cd doc a vs ns G Y ho hd hcd hmg hobj hints hlen hg => ?_
  have KX := hY w _ Y
  obtain ⟨fd, hb, hF⟩ := F w mg fa _ KX G.T.g hmg
  exact law_call KX G.T.g G.T.b G.T.builtins G.T.nolimit hg hobj hints (Nat.le_trans hlen hn2) hr hF hb (fun H hO hS => hsp w H a ns hlen hO hS) fun H e s' => hCX w H s₁ e s'
end L2

/- THE LAST THEOREM (shape; LID, My.* are yours):
   My.Adr: a structure of the addresses that your layer names (classes, functions); My.Txt K t: a structure (Prop) of the equations over K;
   My.txt_mk : {K} {implicit addresses ..} (e1 : nsIn K mainGlobals "law" = some (some (.ref f))) (e2 : K.lookup f = some ⟨oc, od, .func (fnOf "law" "law" params body scope dV kV doc pm an cdv ct), sl⟩) (e3 : codeIn K cdv "law" = true) .. : ∃ t, My.Txt K t

set_option maxRecDepth 100000 in
set_option maxHeartbeats 0 in
theorem PySem.Challenge.cw_LID_holds : PySem.Challenge.rw_LID.Holds := by
  w_on; o_law; k_head; (case hw => w_witness2)
  k_fill
  refine L2.walk_of (l := PySem.Challenge.rw_LID) (n := 63) (k := 40) (x := "script") (CX := fun w => ..) (sp := fun _ => My.sp_law) rfl (by decide) rfl ⟨rfl, by decide, by decide⟩ (fun w h Y => PySem.W.kIn_of Y) ?F ?S ?C
  case F =>
    intro w mg fa h KX G hmg
    have T : ∃ t, My.Txt (L2.KOf KX) t := by
      dsimp only [L2.KOf]                          -- K must stand as «<heap const> w.params» for k_is
      refine' My.txt_mk ?e1 ?e2 ?e3 ..
      (case e1 => PySem.W.k_is)                    -- in the order: a name -> its address -> its object -> its parts
      (case e2 => PySem.W.k_is)
      ..
    obtain ⟨t, T⟩ := T
    have e0 := hmg.symm.trans (PySem.W.mg_of KX G T.law)
    cases e0                                       -- fa is the law's own address
    exact ⟨_, fun s u => .of_eq rfl, fun base kb nb => My.law_fn T kb nb⟩     -- if «.of_eq rfl» comes too early: refine' ⟨_, ?b, fun base kb nb => My.law_fn T kb nb⟩; exact fun s u => .of_eq rfl
  case S => exact fun w H a ns hl hO hS => ..
  case C => exact ..
(the tactic k_is has no namespace: write k_is) -/

/-! SHORT WORDS over the layer: a def of the text, its body, what a loop and a test want. -/
namespace L2
open PySem PySem.Spec PyProof.Rows

/-! ### the text by places -/
noncomputable def defArgs (s : Stmt) : Arguments := match s with
  | .FunctionDef _ a _ _ _ _ _ _ _ _ => a
  | _ => { posonlyargs := [], args := [], vararg := none, kwonlyargs := [], kw_defaults := [], kwarg := none, defaults := [] }
noncomputable def defBody (s : Stmt) : List Stmt := match s with
  | .FunctionDef _ _ b _ _ _ _ _ _ _ => b
  | _ => []
noncomputable def defScope (s : Stmt) : Scope := match s with
  | .FunctionDef _ _ _ _ _ _ sc _ _ _ => sc
  | _ => { kind := .function, names := [], isGenerator := false, isCoroutine := false }

/-! ### no exception leaves a def -/
noncomputable abbrev CX0 : CXT := fun _ _ _ _ _ _ => False
noncomputable abbrev E0 : XK := fun _ _ _ => False
theorem pass0 {X : Cx} : Passes CX0 X E0 := fun _ _ _ _ _ _ _ h => h.elim

/-! ### a def (or method) of the text as it stands behind the top -/
structure Fun (K : PySem.W.Frag) (x qual : Str) (st : Stmt) (f : Addr) (fd : FuncData) : Prop where
  ex : ∃ (oc : Value) (od : Option Addr) (kV doc pm : Value) (an : Option Addr) (cdv ct : Value) (osl : Array (Option Value)),
    fd = PySem.W.fnOf x qual (defArgs st) (defBody st) (defScope st) .none kV doc pm an cdv ct ∧ K.lookup f = some ⟨oc, od, .func fd, osl⟩ ∧ PySem.W.codeIn K cdv qual = true
  kp : PySem.W.keepIn K (.ref f) = true
section
variable {P : Program} {w : World} {K : PySem.W.Frag} {mg : Str → Option Value} {base : Heap}
/-- THE RULE for a def: its body as a term of rules, and the reading of that term -/
theorem Fun.ok {x qual : Str} {st : Stmt} {f : Addr} {fd : FuncData} {N ps : List Str} {k : Nat} {sp : Sp} (F : Fun K x qual st f fd) (S : FnScope N ps (defScope st)) (len : ∀ vs H Q E, sp vs H Q E → vs.length = ps.length)
    (hbody : ∀ (cdv : Value) (A : Around) (outer : List Env) (s : Shared) (H : Hp) (vs : List V) (Q : VK) (E : XK), Room k (A.deeper (envOfC qual (defScope st) s.heap.objs.size f cdv)) → sp vs H Q E →
      ∃ t, PSs (cxOf CX0 P w K mg base N qual (defScope st) f cdv A outer s H E).nox (defBody st) t ∧ t { nx := fun _ H' => Q .non H', rt := Q } (start N vs) H) : FnOk P w K mg base CX0 (k + 1) f fd ps sp := by
  obtain ⟨oc, od, kV, doc, pm, an, cdv, ct, osl, rfl, lk, hcd⟩ := F.ex
  refine fn_of lk hcd S len fun A outer s H vs Q E hr hsp => ?_
  obtain ⟨t, h, q⟩ := hbody cdv A outer s H vs Q E hr hsp
  exact ⟨t, h.nox, q⟩
/-- how its arguments bind (no defaults): h is «fun _ _ _ _ _ _ us hl => by obtain ⟨_, _, rfl⟩ := len2 hl; rfl», one _ a parameter -/
theorem Fun.binds {x qual : Str} {st : Stmt} {f : Addr} {fd : FuncData} {ps : List Str} (F : Fun K x qual st f fd)
    (h : ∀ (kV doc pm : Value) (an : Option Addr) (cdv ct : Value) (us : List Value), us.length = ps.length → bindArgs (PySem.W.fnOf x qual (defArgs st) (defBody st) (defScope st) .none kV doc pm an cdv ct) ⟨us, []⟩ = pure (ps.zip us)) : Binds K fd ps [] := by
  obtain ⟨oc, od, kV, doc, pm, an, cdv, ct, osl, rfl, lk, hcd⟩ := F.ex
  exact .all (h kV doc pm an cdv ct)
theorem fun_mk {x qual : Str} {st : Stmt} {f : Addr} {oc : Value} {od an : Option Addr} {osl : Array (Option Value)} {kV doc pm cdv ct : Value} (l : K.lookup f = some ⟨oc, od, .func (PySem.W.fnOf x qual (defArgs st) (defBody st) (defScope st) .none kV doc pm an cdv ct), osl⟩)
    (c : PySem.W.codeIn K cdv qual = true) (k : PySem.W.keepIn K (.ref f) = true) : Fun K x qual st f (PySem.W.fnOf x qual (defArgs st) (defBody st) (defScope st) .none kV doc pm an cdv ct) := ⟨⟨oc, od, kV, doc, pm, an, cdv, ct, osl, rfl, l, c⟩, k⟩
end
theorem hu_of {A : Around} {k : Nat} (hr : Room k A) : A.units + 1 < cLine := Nat.lt_of_le_of_lt (Nat.add_le_add_left (by decide : 1 ≤ 64) _) hr.units
/-! ### expressions in short: the name that stands in the i-th slot -/
section
variable {X : Cx}
theorem pv (i : Nat) {x : Str} {pos : Pos} (hN : X.N[i]? = some x := by rfl) (hv : Vis X.env.scope x := by first | exact Or.inl rfl | exact Or.inr (Or.inl rfl) | exact Or.inr (Or.inr rfl)) (hd : (x == ("__debug__" : Str)) = false := by decide)
    (hcd : (x == ("__classdict__" : Str)) = false := by decide) : PE X (.Name x pos) (tVar i) := pe_var hN hv hd hcd
end

/-! ### tests -/
theorem iteF {A B : Prop} (h : B) : if false = true then A else B := by
  rw [if_neg Bool.false_ne_true]
  exact h
theorem iteT {A B : Prop} (h : A) : if true = true then A else B := by
  rw [if_pos rfl]
  exact h
theorem ite2 {c A B : Prop} [Decidable c] (h1 : c → A) (h2 : ¬ c → B) : if c then A else B := by
  by_cases h : c
  · rw [if_pos h]
    exact h1 h
  · rw [if_neg h]
    exact h2 h
theorem iteNS {c A B : Prop} [Decidable c] (hc : c) (h : B) : if (!decide c) = true then A else B := by
  rw [decide_eq_true hc]
  exact iteF h

/-! ### heaps -/
/-- all that was tracked is as it was -/
noncomputable def Same (H H' : Hp) : Prop := ∀ b o, H b = some o → H' b = some o
theorem Same.refl (H : Hp) : Same H H := fun _ _ h => h
theorem Same.trans {H H1 H2 : Hp} (a : Same H H1) (b : Same H1 H2) : Same H H2 := fun c o h => b c o (a c o h)
theorem Same.seq {K : PySem.W.Frag} {H H' : Hp} {a : Addr} {xs : List V} (e : Same H H') (h : SqL K H a xs) : SqL K H' a xs := by
  rcases h with (h | ⟨o, h⟩) | h
  · exact .inl (.inl (e _ _ h))
  · exact .inl (.inr ⟨o, e _ _ h⟩)
  · exact .inr h

end L2
set_option maxHeartbeats 4000000
namespace TT
open PySem

/-! ### trees and their paths -/
inductive Tr where
  | node (m : Str) (ks : List Tr)
noncomputable def Tr.mark : Tr → Str
  | .node m _ => m
noncomputable def Tr.kids : Tr → List Tr
  | .node _ ks => ks
mutual
noncomputable def Tr.knots : Tr → Nat
  | .node _ ks => 1 + knotsOf ks
noncomputable def knotsOf : List Tr → Nat
  | [] => 0
  | t :: ts => t.knots + knotsOf ts
end
theorem knots_eq (t : Tr) : t.knots = 1 + knotsOf t.kids := by cases t; rfl
theorem knotsOf_append : ∀ (a b : List Tr), knotsOf (a ++ b) = knotsOf a + knotsOf b
  | [], b => by simp [knotsOf]
  | t :: a, b => by rw [List.cons_append, knotsOf, knotsOf_append a b, knotsOf]; omega
theorem knotsOf_perm {a b : List Tr} (h : a.Perm b) : knotsOf a = knotsOf b := by
  induction h with
  | nil => rfl
  | cons x _ ih => rw [knotsOf, knotsOf, ih]
  | swap x y l => simp only [knotsOf]; omega
  | trans _ _ i1 i2 => exact i1.trans i2
theorem length_le_knots : ∀ ts : List Tr, ts.length ≤ knotsOf ts
  | [] => Nat.le_refl _
  | t :: ts => by
    have := length_le_knots ts
    rw [List.length_cons, knotsOf, knots_eq]; omega
theorem knots_mem {t : Tr} : ∀ {ts : List Tr}, t ∈ ts → t.knots ≤ knotsOf ts
  | a :: ts, h => by
    rcases List.mem_cons.mp h with rfl | h
    · rw [knotsOf]; omega
    · have := knots_mem h; rw [knotsOf]; omega
mutual
/-- the paths in a tree, its top the empty one -/
noncomputable def Tr.pp : Tr → List (List Int)
  | .node _ ks => [] :: pps 0 ks
/-- the paths in a row, the first tree at place i -/
noncomputable def pps : Nat → List Tr → List (List Int)
  | _, [] => []
  | i, t :: ts => t.pp.map (fun p => (i : Int) :: p) ++ pps (i + 1) ts
end
theorem pp_eq (t : Tr) : t.pp = [] :: pps 0 t.kids := by cases t; rfl
mutual
theorem Tr.pp_length : ∀ t : Tr, t.pp.length = t.knots
  | .node _ ks => by rw [Tr.pp, Tr.knots, List.length_cons, pps_length 0 ks]; omega
theorem pps_length : ∀ (i : Nat) (ts : List Tr), (pps i ts).length = knotsOf ts
  | _, [] => rfl
  | i, t :: ts => by rw [pps, knotsOf, List.length_append, List.length_map, Tr.pp_length t, pps_length (i + 1) ts]
end
/-- a path and the trees below it: its paths -/
noncomputable abbrev Job := List Int × List Tr
noncomputable def Job.all (j : Job) : List (List Int) := (pps 0 j.2).map (j.1 ++ ·)
noncomputable def subs (p : List Int) : Nat → List Tr → List Job
  | _, [] => []
  | i, t :: ts => (p ++ [(i : Int)], t.kids) :: subs p (i + 1) ts
noncomputable def allOf (js : List Job) : List (List Int) := js.flatMap Job.all
theorem allOf_nil : allOf [] = [] := rfl
theorem allOf_cons (j : Job) (js : List Job) : allOf (j :: js) = j.all ++ allOf js := by simp [allOf]
theorem allOf_append (a b : List Job) : allOf (a ++ b) = allOf a ++ allOf b := by simp [allOf]
theorem subs_length (p : List Int) : ∀ (i : Nat) (ts : List Tr), (subs p i ts).length = ts.length
  | _, [] => rfl
  | i, t :: ts => by rw [subs, List.length_cons, subs_length p (i + 1) ts, List.length_cons]
theorem pps_split (p : List Int) : ∀ (i : Nat) (ts : List Tr), ((pps i ts).map (p ++ ·)).Perm ((subs p i ts).map (·.1) ++ allOf (subs p i ts))
  | _, [] => .nil
  | i, t :: ts => by
    have ih := pps_split p (i + 1) ts
    rw [pps, subs, List.map_append, List.map_cons, allOf_cons, pp_eq, List.map_cons, List.map_cons, List.map_map, List.cons_append, List.cons_append]
    refine List.Perm.cons _ ?_
    have e : Job.all (p ++ [(i : Int)], t.kids) = (pps 0 t.kids).map ((fun x => p ++ x) ∘ fun q => (i : Int) :: q) := by
      unfold Job.all
      refine List.map_congr_left fun q _ => ?_
      simp
    rw [e]
    refine (List.Perm.append_left _ ih).trans ?_
    rw [← List.append_assoc, ← List.append_assoc]
    exact List.Perm.append_right _ List.perm_append_comm
theorem job_split (j : Job) : j.all.Perm ((subs j.1 0 j.2).map (·.1) ++ allOf (subs j.1 0 j.2)) := pps_split j.1 0 j.2
/-- a turn of the search that takes the last job -/
theorem turn_last {F : List (List Int)} {T : List Job} {j : Job} {C : List (List Int)} (h : (F ++ allOf (T ++ [j])).Perm C) :
    ((F ++ (subs j.1 0 j.2).map (·.1)) ++ allOf (T ++ subs j.1 0 j.2)).Perm C := by
  refine List.Perm.trans ?_ h
  rw [allOf_append, allOf_append, allOf_cons, allOf_nil, List.append_nil, List.append_assoc]
  refine List.Perm.append_left _ ?_
  refine List.Perm.trans ?_ (List.Perm.append_left _ (job_split j).symm)
  rw [← List.append_assoc, ← List.append_assoc]
  exact List.Perm.append_right _ List.perm_append_comm
/-- a turn of the search level by level -/
noncomputable def deeper (js : List Job) : List Job := js.flatMap fun j => subs j.1 0 j.2
/-! ### the order of lists of ints -/
open HT
theorem lex_irr : ∀ a : List Int, HT.lexLt a a = false
  | [] => rfl
  | x :: a => by simp [HT.lexLt, lex_irr a]
theorem lex_tr : ∀ a b c : List Int, HT.lexLt a b = true → HT.lexLt b c = true → HT.lexLt a c = true
  | [], [], _, h, _ => by simp [HT.lexLt] at h
  | [], _ :: _, [], _, h => by simp [HT.lexLt] at h
  | [], _ :: _, _ :: _, _, _ => rfl
  | _ :: _, [], _, h, _ => by simp [HT.lexLt] at h
  | _ :: _, _ :: _, [], _, h => by simp [HT.lexLt] at h
  | x :: a, y :: b, z :: c, h, k => by
    simp only [HT.lexLt] at h k ⊢
    by_cases e1 : x = y
    · subst e1
      rw [if_pos rfl] at h
      by_cases e2 : x = z
      · rw [if_pos e2] at k ⊢; exact lex_tr a b c h k
      · rw [if_neg e2] at k ⊢; exact k
    · rw [if_neg e1] at h
      have h' := of_decide_eq_true h
      by_cases e2 : y = z
      · subst e2
        rw [if_neg e1]; exact h
      · rw [if_neg e2] at k
        have k' := of_decide_eq_true k
        rw [if_neg (by omega)]
        exact decide_eq_true (by omega)
theorem lex_tot : ∀ a b : List Int, HT.lexLt a b = false → HT.lexLt b a = false → a = b
  | [], [], _, _ => rfl
  | [], _ :: _, h, _ => by simp [HT.lexLt] at h
  | _ :: _, [], _, h => by simp [HT.lexLt] at h
  | x :: a, y :: b, h, k => by
    simp only [HT.lexLt] at h k
    by_cases e : x = y
    · subst e
      rw [if_pos rfl] at h k
      rw [lex_tot a b h k]
    · rw [if_neg e] at h
      rw [if_neg (Ne.symm e)] at k
      have := of_decide_eq_false h
      have := of_decide_eq_false k
      omega
theorem lex_neg (a b c : List Int) (h : HT.lexLt a c = true) : HT.lexLt a b = true ∨ HT.lexLt b c = true := by
  cases h1 : HT.lexLt a b with
  | true => exact .inl rfl
  | false =>
    cases h2 : HT.lexLt b a with
    | true => exact .inr (lex_tr _ _ _ h2 h)
    | false => rw [lex_tot a b h1 h2] at h; exact .inr h
/-- sorted, as sorted() leaves it -/
noncomputable def Rising (l : List (List Int)) : Prop := l.Pairwise fun a b => HT.lexLt b a = false
/-! ### whether a path leads to a knot -/
noncomputable def down : List Tr → List Int → Option (List Tr)
  | ts, [] => some ts
  | ts, i :: p => if i < 0 then none else match ts[i.toNat]? with
    | none => none
    | some t => down t.kids p
theorem down_append : ∀ (ts : List Tr) (p q : List Int), down ts (p ++ q) = (down ts p).bind fun u => down u q
  | ts, [], q => rfl
  | ts, i :: p, q => by
    rw [List.cons_append, down, down]
    by_cases h : i < 0
    · rw [if_pos h, if_pos h]; rfl
    · rw [if_neg h, if_neg h]
      cases e : ts[i.toNat]? with
      | none => rfl
      | some t => exact down_append t.kids p q
theorem down_pps : ∀ (n : Nat) (ts : List Tr), knotsOf ts ≤ n → ∀ (pre : List Tr) (p : List Int), p ∈ pps pre.length ts → ∃ u, down (pre ++ ts) p = some u
  | n, [], _, pre, p, h => by simp [pps] at h
  | 0, t :: ts, hn, _, _, _ => by rw [knotsOf, knots_eq] at hn; omega
  | n + 1, t :: ts, hn, pre, p, h => by
    rw [knotsOf, knots_eq] at hn
    rw [pps] at h
    rcases List.mem_append.mp h with h | h
    · obtain ⟨q, hq, rfl⟩ := List.mem_map.mp h
      have e : (pre ++ t :: ts)[((pre.length : Nat) : Int).toNat]? = some t := by simp
      rw [down, if_neg (by omega), e]
      rw [pp_eq] at hq
      rcases List.mem_cons.mp hq with rfl | hq
      · exact ⟨_, rfl⟩
      · exact down_pps n t.kids (by omega) [] q hq
    · have := down_pps n ts (by omega) (pre ++ [t]) p (by simpa using h)
      simpa using this
theorem down_knots : ∀ (p : List Int) (ts u : List Tr), down ts p = some u → knotsOf u ≤ knotsOf ts
  | [], ts, u, h => by cases h; exact Nat.le_refl _
  | i :: p, ts, u, h => by
    rw [down] at h
    by_cases hi : i < 0
    · rw [if_pos hi] at h; cases h
    · rw [if_neg hi] at h
      cases e : ts[i.toNat]? with
      | none => rw [e] at h; cases h
      | some t =>
        rw [e] at h
        have h1 := down_knots p t.kids u h
        have h2 := knots_mem (List.mem_of_getElem? e)
        rw [knots_eq] at h2
        omega
end TT
set_option linter.all false
namespace TT
open PySem PySem.W PyProof.Rows

/-- a strict weak order on places -/
structure POrd (lt : Nat → Nat → Bool) : Prop where
  irr : ∀ a, lt a a = false
  tr : ∀ a b c, lt a b = true → lt b c = true → lt a c = true
  neg : ∀ a b c, lt a c = true → lt a b = true ∨ lt b c = true
noncomputable abbrev ple (lt : Nat → Nat → Bool) (a b : Nat) : Prop := lt b a = false
section
variable {lt : Nat → Nat → Bool}
theorem POrd.rfl' (O : POrd lt) (a : Nat) : ple lt a a := O.irr a
theorem POrd.le_tr (O : POrd lt) {a b c : Nat} (h1 : ple lt a b) (h2 : ple lt b c) : ple lt a c := by
  unfold ple at *
  cases h : lt c a with
  | false => rfl
  | true =>
    rcases O.neg c b a h with q | q
    · rw [h2] at q; cases q
    · rw [h1] at q; cases q
theorem POrd.le_of (O : POrd lt) {a b : Nat} (h : lt a b = true) : ple lt a b := by
  unfold ple
  cases q : lt b a with
  | false => rfl
  | true => have := O.tr _ _ _ h q; rw [O.irr] at this; cases this
noncomputable abbrev pat (p : Array Nat) (k : Nat) : Nat := p.getD k 0
noncomputable def SortTo (lt : Nat → Nat → Bool) (p : Array Nat) (k : Nat) : Prop := ∀ i j, i ≤ j → j < k → ple lt (pat p i) (pat p j)
noncomputable def FallTo (lt : Nat → Nat → Bool) (p : Array Nat) (k : Nat) : Prop := ∀ i j, i ≤ j → j < k → ple lt (pat p j) (pat p i)
noncomputable def Same2 (lt : Nat → Nat → Bool) (a b : Nat) : Prop := ple lt a b ∧ ple lt b a
theorem pat_of {p q : Array Nat} {i j : Nat} (h : p[i]? = q[j]?) : pat p i = pat q j := by
  unfold pat
  rw [Array.getD_eq_getD_getElem?, Array.getD_eq_getD_getElem?, h]
theorem pat_rev {p : Array Nat} {i j : Nat} (hj : j ≤ p.size) (k : Nat) : pat (kas_rev p i j) k = if i ≤ k ∧ k < j then pat p (i + j - 1 - k) else pat p k := by
  have e := getElem?_mirror_all (xs := p) (i := i) hj k
  unfold kas_rev
  by_cases h : i ≤ k ∧ k < j
  · rw [if_pos h] at e ⊢; exact pat_of e
  · rw [if_neg h] at e ⊢; exact pat_of e
theorem pat_bub {p : Array Nat} {s d : Nat} (hs : s < p.size) (hd : d ≤ s) (k : Nat) : pat (bubble p s d) k = if k = s - d then pat p s else if s - d < k ∧ k ≤ s then pat p (k - 1) else pat p k := by
  have e := getElem?_bubble hs d hd k
  by_cases h1 : k = s - d
  · rw [if_pos h1] at e ⊢; exact pat_of e
  · rw [if_neg h1] at e ⊢
    by_cases h2 : s - d < k ∧ k ≤ s
    · rw [if_pos h2] at e ⊢; exact pat_of e
    · rw [if_neg h2] at e ⊢; exact pat_of e
/-- the places of p, whatever their order -/
noncomputable def Pl (n : Nat) (p : Array Nat) : Prop := p.Perm (List.toArray (List.range n))
theorem Pl.size {n : Nat} {p : Array Nat} (h : Pl n p) : p.size = n := by
  have := Array.Perm.size_eq h
  simpa using this
theorem Pl.below {n : Nat} {p : Array Nat} (h : Pl n p) {k : Nat} (hk : k < n) : pat p k < n := by
  have hs := h.size
  have hm : p[k] ∈ p := Array.getElem_mem (by omega)
  have : p[k] ∈ List.toArray (List.range n) := (Array.Perm.mem_iff h).mp hm
  have e : pat p k = p[k] := by unfold pat; rw [Array.getD_eq_getD_getElem?]; simp [show k < p.size by omega]
  rw [e]
  simpa using this
theorem Pl.rev {n i j : Nat} {p : Array Nat} (h : Pl n p) : Pl n (kas_rev p i j) := (mirror_perm p i j _).trans h
theorem Pl.bub {n i d : Nat} {p : Array Nat} (h : Pl n p) : Pl n (bubble p i d) := (bubble_perm p i d).trans h

/-- what is known of the comparisons at the state s -/
noncomputable def Cmps (lt : Nat → Nat → Bool) (n : Nat) (cmp : Nat → Nat → (Bool → Shared → Prop) → Shared → Prop) (s : Shared) : Prop :=
  ∀ i j C, i < n → j < n → C (lt i j) s → cmp i j C s
variable {cmp : Nat → Nat → (Bool → Shared → Prop) → Shared → Prop} {s : Shared} {n : Nat}
theorem sort_one (O : POrd lt) {p : Array Nat} {m : Nat} (hs : SortTo lt p m) (hm : 1 ≤ m) (h : lt (pat p m) (pat p (m - 1)) = false) : SortTo lt p (m + 1) := by
  intro i j hij hj
  by_cases e : j = m
  · subst e
    by_cases e2 : i = j
    · subst e2; exact O.rfl' _
    · exact O.le_tr (hs i (j - 1) (by omega) (by omega)) h
  · exact hs i j hij (by omega)
theorem fall_one (O : POrd lt) {p : Array Nat} {m : Nat} (hs : FallTo lt p m) (hm : 1 ≤ m) (h : ple lt (pat p m) (pat p (m - 1))) : FallTo lt p (m + 1) := by
  intro i j hij hj
  by_cases e : j = m
  · subst e
    by_cases e2 : i = j
    · subst e2; exact O.rfl' _
    · exact O.le_tr h (hs i (j - 1) (by omega) (by omega))
  · exact hs i j hij (by omega)
theorem asc_ok (O : POrd lt) (hc : Cmps lt n cmp s) {p : Array Nat} (hp : Pl n p) {Q : Nat → Shared → Prop} : ∀ (f m : Nat), 1 ≤ m → m + f ≤ n → SortTo lt p m →
    (∀ r, m ≤ r → r ≤ m + f → SortTo lt p r → (r = m + f ∨ lt (pat p r) (pat p (r - 1)) = true) → Q r s) → (kas_asc p f m).kasWp cmp Q s
  | 0, m, _, _, hs, k => k m (Nat.le_refl _) (Nat.le_refl _) hs (.inl rfl)
  | f + 1, m, h1, h2, hs, k => by
    refine hc _ _ _ (hp.below (by omega)) (hp.below (by omega)) ?_
    cases e : lt (p.getD m 0) (p.getD (m - 1) 0) with
    | true => exact k m (Nat.le_refl _) (by omega) hs (.inr e)
    | false =>
      show (kas_asc p f (m + 1)).kasWp cmp Q s
      exact asc_ok O hc hp f (m + 1) (by omega) (by omega) (sort_one O hs h1 e) fun r a b c d => k r (by omega) (by omega) c (d.elim (fun z => .inl (by omega)) .inr)
theorem fall_same (O : POrd lt) {p q : Array Nat} {m : Nat} (hs : FallTo lt p m) (h : ∀ k, k < m → Same2 lt (pat q k) (pat p k)) : FallTo lt q m := fun i j hij hj =>
  O.le_tr (h j hj).1 (O.le_tr (hs i j hij hj) (h i (by omega)).2)
/-- the last r + 1 of the first m are alike -/
noncomputable def Alike (lt : Nat → Nat → Bool) (p : Array Nat) (m r : Nat) : Prop := ∀ k, m ≤ k + 1 + r → k < m → Same2 lt (pat p k) (pat p (m - 1))
theorem rev_alike (O : POrd lt) {p : Array Nat} {m r : Nat} (hm : m ≤ p.size) (ha : Alike lt p m r) (hr : r + 1 ≤ m) (k : Nat) : Same2 lt (pat (kas_rev p (m - (r + 1)) m) k) (pat p k) := by
  rw [pat_rev hm]
  by_cases h : m - (r + 1) ≤ k ∧ k < m
  · rw [if_pos h]
    have a := ha (m - (r + 1) + m - 1 - k) (by omega) (by omega)
    have b := ha k (by omega) h.2
    exact ⟨O.le_tr a.1 b.2, O.le_tr b.1 a.2⟩
  · rw [if_neg h]
    exact ⟨O.rfl' _, O.rfl' _⟩
theorem desc_ok (O : POrd lt) (hc : Cmps lt n cmp s) {Q : Array Nat × Nat × Nat → Shared → Prop} : ∀ (f : Nat) (p : Array Nat) (m r : Nat), Pl n p → r + 1 ≤ m → m + f ≤ n → FallTo lt p m → Alike lt p m r →
    (∀ p' m' r', Pl n p' → r' + 1 ≤ m' → m' ≤ n → FallTo lt p' m' → Alike lt p' m' r' → Q (p', m', r') s) → (kas_desc f p m r).kasWp cmp Q s
  | 0, p, m, r, hp, h1, h2, hf, ha, k => k p m r hp h1 (by omega) hf ha
  | f + 1, p, m, r, hp, h1, h2, hf, ha, k => by
    have hsz := hp.size
    refine hc _ _ _ (hp.below (by omega)) (hp.below (by omega)) ?_
    cases e : lt (p.getD m 0) (p.getD (m - 1) 0) with
    | true =>
      have one : ∀ q : Array Nat, Alike lt q (m + 1) 0 := fun q k a b => by
        have : k = m + 1 - 1 := by omega
        subst this
        exact ⟨O.rfl' _, O.rfl' _⟩
      have up := fall_one O hf (by omega) (O.le_of e)
      by_cases hr : r > 0
      · show (if r > 0 then kas_desc f (kas_rev p (m - (r + 1)) m) (m + 1) 0 else kas_desc f p (m + 1) 0).kasWp cmp Q s
        rw [if_pos hr]
        exact desc_ok O hc f _ (m + 1) 0 hp.rev (by omega) (by omega) (fall_same O up fun k _ => rev_alike O (by omega) ha h1 k) (one _) k
      · show (if r > 0 then kas_desc f (kas_rev p (m - (r + 1)) m) (m + 1) 0 else kas_desc f p (m + 1) 0).kasWp cmp Q s
        rw [if_neg hr]
        exact desc_ok O hc f _ (m + 1) 0 hp (by omega) (by omega) up (one _) k
    | false =>
      show (KasT.ask (p.getD (m - 1) 0) (p.getD m 0) fun d => if d = true then .ret (p, m, r) else kas_desc f p (m + 1) (r + 1)).kasWp cmp Q s
      refine hc _ _ _ (hp.below (by omega)) (hp.below (by omega)) ?_
      cases e2 : lt (p.getD (m - 1) 0) (p.getD m 0) with
      | true => exact k p m r hp h1 (by omega) hf ha
      | false =>
        refine desc_ok O hc f p (m + 1) (r + 1) hp (by omega) (by omega) (fall_one O hf (by omega) e2) (fun k a b => ?_) k
        have e3 : m + 1 - 1 = m := by omega
        rw [e3]
        by_cases hk : k = m
        · subst hk; exact ⟨O.rfl' _, O.rfl' _⟩
        · have q := ha k (by omega) (by omega)
          exact ⟨O.le_tr q.1 e, O.le_tr e2 q.2⟩
theorem sort_of_fall {p : Array Nat} {m : Nat} (hm : m ≤ p.size) (hf : FallTo lt p m) : SortTo lt (kas_rev p 0 m) m := by
  intro i j hij hj
  rw [pat_rev hm, pat_rev hm, if_pos ⟨Nat.zero_le _, by omega⟩, if_pos ⟨Nat.zero_le _, hj⟩]
  exact hf _ _ (by omega) (by omega)
theorem tail_ok (O : POrd lt) (hc : Cmps lt n cmp s) {p : Array Nat} {m : Nat} {Q : Nat × Array Nat → Shared → Prop} (hp : Pl n p) (h1 : 1 ≤ m) (h2 : m ≤ n) (hf : FallTo lt p m)
    (k : ∀ r q, Pl n q → 1 ≤ r → r ≤ n → SortTo lt q r → Q (r, q) s) : (kas_tail3 m n p).kasWp cmp Q s := by
  unfold kas_tail3
  rw [KasT.kasWp_bind]
  exact asc_ok O hc hp.rev _ _ h1 (by omega) (sort_of_fall (by rw [hp.size]; omega) hf) fun r a b c _ => k r _ hp.rev (by omega) (by omega) c
theorem descPart_ok (O : POrd lt) (hc : Cmps lt n cmp s) {p : Array Nat} {m : Nat} {Q : Nat × Array Nat → Shared → Prop} (hp : Pl n p) (h1 : 1 ≤ m) (h2 : m < n) (hf : FallTo lt p (m + 1))
    (k : ∀ r q, Pl n q → 1 ≤ r → r ≤ n → SortTo lt q r → Q (r, q) s) : (kas_descPart m n p).kasWp cmp Q s := by
  unfold kas_descPart
  rw [KasT.kasWp_bind]
  refine desc_ok O hc _ p (m + 1) 0 hp (by omega) (by omega) hf (fun k a b => ?_) fun p' m' r' hp' hr hm hf' ha' => ?_
  · have : k = m + 1 - 1 := by omega
    subst this
    exact ⟨O.rfl' _, O.rfl' _⟩
  · by_cases h : r' > 0
    · show (if r' > 0 then kas_tail3 m' n (kas_rev p' (m' - (r' + 1)) m') else kas_tail3 m' n p').kasWp cmp Q s
      rw [if_pos h]
      exact tail_ok O hc hp'.rev (by omega) hm (fall_same O hf' fun k _ => rev_alike O (by rw [hp'.size]; exact hm) ha' hr k) k
    · show (if r' > 0 then kas_tail3 m' n (kas_rev p' (m' - (r' + 1)) m') else kas_tail3 m' n p').kasWp cmp Q s
      rw [if_neg h]
      exact tail_ok O hc hp' (by omega) hm hf' k
theorem count_ok (O : POrd lt) (hc : Cmps lt n cmp s) {p : Array Nat} {Q : Nat × Array Nat → Shared → Prop} (hp : Pl n p) (h2 : 2 ≤ n) (k : ∀ r q, Pl n q → 1 ≤ r → r ≤ n → SortTo lt q r → Q (r, q) s) :
    (kas_count n p).kasWp cmp Q s := by
  unfold kas_count
  rw [KasT.kasWp_bind]
  have hsz := hp.size
  refine asc_ok O hc hp _ 1 (Nat.le_refl _) (by omega) (fun i j a b => ?_) fun r a b hs hstop => ?_
  · have e : i = j := by omega
    subst e; exact O.rfl' _
  · by_cases e : r = n
    · subst e
      rw [if_pos (by simp)]
      exact k r p hp a (Nat.le_refl _) hs
    · rw [if_neg (by simpa using e)]
      have hlt : lt (pat p r) (pat p (r - 1)) = true := by
        rcases hstop with z | z
        · omega
        · exact z
      by_cases h1 : r > 1
      · rw [if_pos h1]
        refine hc _ _ _ (hp.below (by omega)) (hp.below (by omega)) ?_
        cases e2 : lt (p.getD 0 0) (p.getD (r - 1) 0) with
        | true => exact k r p hp a (by omega) hs
        | false =>
          show (kas_descPart r n (kas_rev p 0 r)).kasWp cmp Q s
          have al : ∀ x, x < r → Same2 lt (pat p x) (pat p 0) := fun x hx => ⟨O.le_tr (hs x (r - 1) (by omega) (by omega)) e2, hs 0 x (by omega) hx⟩
          refine descPart_ok O hc hp.rev a (by omega) (fun i j hij hj => ?_) k
          have v : ∀ x, x < r → Same2 lt (pat (kas_rev p 0 r) x) (pat p 0) := fun x hx => by
            rw [pat_rev (by omega), if_pos ⟨Nat.zero_le _, hx⟩]
            exact al _ (by omega)
          by_cases ej : j = r
          · subst ej
            have er : pat (kas_rev p 0 j) j = pat p j := by rw [pat_rev (by omega), if_neg (by omega)]
            by_cases ei : i = j
            · subst ei; exact O.rfl' _
            · rw [er]
              exact O.le_tr (O.le_of hlt) (O.le_tr (al (j - 1) (by omega)).1 (v i (by omega)).2)
          · exact O.le_tr (v j (by omega)).1 (v i (by omega)).2
      · rw [if_neg h1]
        have e1 : r = 1 := by omega
        subst e1
        refine descPart_ok O hc hp (Nat.le_refl _) (by omega) (fun i j hij hj => ?_) k
        by_cases ej : i = j
        · subst ej; exact O.rfl' _
        · have e3 : i = 0 := by omega
          have e4 : j = 1 := by omega
          subst e3 e4
          exact O.le_of hlt
theorem place_ok (O : POrd lt) (hc : Cmps lt n cmp s) {p : Array Nat} (hp : Pl n p) {c : Nat} (hcn : c < n) (hs : SortTo lt p c) {Q : Nat → Shared → Prop} : ∀ (f l r : Nat), l ≤ r → r ≤ c → r - l ≤ f → (∀ i, i < l → ple lt (pat p i) (pat p c)) → (∀ i, r ≤ i → i < c → ple lt (pat p c) (pat p i)) →
    (∀ l, l ≤ c → (∀ i, i < l → ple lt (pat p i) (pat p c)) → (∀ i, l ≤ i → i < c → ple lt (pat p c) (pat p i)) → Q l s) → (kas_place p c f l r).kasWp cmp Q s
  | 0, l, r, h1, h2, h3, a, b, k => k l (by omega) a fun i hi hc' => b i (by omega) hc'
  | f + 1, l, r, h1, h2, h3, a, b, k => by
    by_cases h : l ≥ r
    · show (if l ≥ r then KasT.ret l else _).kasWp cmp Q s
      rw [if_pos h]
      exact k l (by omega) a fun i hi hc' => b i (by omega) hc'
    · show (if l ≥ r then KasT.ret l else KasT.ask (p.getD c 0) (p.getD ((l + r) / 2) 0) fun d => if d = true then kas_place p c f l ((l + r) / 2) else kas_place p c f ((l + r) / 2 + 1) r).kasWp cmp Q s
      rw [if_neg h]
      refine hc _ _ _ (hp.below hcn) (hp.below (by omega)) ?_
      cases e : lt (p.getD c 0) (p.getD ((l + r) / 2) 0) with
      | true => exact place_ok O hc hp hcn hs f l _ (by omega) (by omega) (by omega) a (fun i hi hic => O.le_tr (O.le_of e) (hs _ i hi hic)) k
      | false => exact place_ok O hc hp hcn hs f _ r (by omega) (by omega) (by omega) (fun i hi => O.le_tr (hs i ((l + r) / 2) (by omega) (by omega)) e) b k
theorem sort_ins (O : POrd lt) {p : Array Nat} {c l : Nat} (hc : c < p.size) (hs : SortTo lt p c) (hl : l ≤ c) (a : ∀ i, i < l → ple lt (pat p i) (pat p c)) (b : ∀ i, l ≤ i → i < c → ple lt (pat p c) (pat p i)) : SortTo lt (bubble p c (c - l)) (c + 1) := by
  intro i j hij hj
  have e0 : c - (c - l) = l := by omega
  rw [pat_bub hc (by omega), pat_bub hc (by omega), e0]
  by_cases h1 : i = l
  · rw [if_pos h1]
    by_cases h2 : j = l
    · rw [if_pos h2]; exact O.rfl' _
    · rw [if_neg h2, if_pos ⟨by omega, by omega⟩]; exact b _ (by omega) (by omega)
  · rw [if_neg h1]
    by_cases h3 : l < i ∧ i ≤ c
    · rw [if_pos h3, if_neg (by omega), if_pos ⟨by omega, by omega⟩]
      exact hs _ _ (by omega) (by omega)
    · rw [if_neg h3]
      by_cases h2 : j = l
      · rw [if_pos h2]; exact a i (by omega)
      · rw [if_neg h2]
        by_cases h4 : l < j ∧ j ≤ c
        · rw [if_pos h4]; exact hs _ _ (by omega) (by omega)
        · rw [if_neg h4]; exact hs _ _ hij (by omega)
theorem bin_ok (O : POrd lt) (hc : Cmps lt n cmp s) {Q : Array Nat → Shared → Prop} : ∀ (f : Nat) (p : Array Nat) (c : Nat), Pl n p → c + f = n → SortTo lt p c → (∀ q, Pl n q → SortTo lt q n → Q q s) → (kas_bin f p c).kasWp cmp Q s
  | 0, p, c, hp, h, hs, k => k p hp (by rw [show n = c by omega]; exact hs)
  | f + 1, p, c, hp, h, hs, k => by
    show ((kas_place p c c 0 c).bind fun l => kas_bin f (bubble p c (c - l)) (c + 1)).kasWp cmp Q s
    rw [KasT.kasWp_bind]
    refine place_ok O hc hp (by omega) hs c 0 c (Nat.zero_le _) (Nat.le_refl _) (by omega) (fun i hi => absurd hi (by omega)) (fun i h1 h2 => absurd h1 (by omega)) fun l hl a b => ?_
    exact bin_ok O hc f _ (c + 1) hp.bub (by omega) (sort_ins O (by rw [hp.size]; omega) hs hl a b) k
theorem kas_sort_ok (O : POrd lt) (hc : Cmps lt n cmp s) (h2 : 2 ≤ n) {Q : Array Nat → Shared → Prop} (k : ∀ q, Pl n q → SortTo lt q n → Q q s) : (kas_sort n).kasWp cmp Q s := by
  unfold kas_sort
  rw [KasT.kasWp_bind]
  refine count_ok O hc (Array.Perm.refl _) h2 fun r q hq h1 hr hs => ?_
  have em : max r 1 = r := by omega
  by_cases h : r < n
  · show (if r < n then kas_bin (n - max r 1) q (max r 1) else .ret q).kasWp cmp Q s
    rw [if_pos h, em]
    exact bin_ok O hc _ q r hq (by omega) hs k
  · show (if r < n then kas_bin (n - max r 1) q (max r 1) else .ret q).kasWp cmp Q s
    rw [if_neg h]
    exact k q hq (by rw [show n = r by omega]; exact hs)
end
end TT
namespace TT
open PySem L2

/-! ### data, and how a heap bears it -/
inductive D where
  | int (i : Int) | str (x : Str) | bl (b : Bool) | non | lst (xs : List D) | tup (xs : List D)
mutual
noncomputable def D.size : D → Nat
  | .lst xs => 1 + sizes xs
  | .tup xs => 1 + sizes xs
  | .int _ => 1
  | .str _ => 1
  | .bl _ => 1
  | .non => 1
noncomputable def sizes : List D → Nat
  | [] => 0
  | d :: ds => d.size + sizes ds
end
theorem size_pos (d : D) : 1 ≤ d.size := by cases d <;> simp [D.size]
theorem sizes_append : ∀ a b : List D, sizes (a ++ b) = sizes a + sizes b
  | [], b => by simp [sizes]
  | d :: a, b => by rw [List.cons_append, sizes, sizes, sizes_append a b]; omega
theorem length_le_sizes : ∀ ds : List D, ds.length ≤ sizes ds
  | [] => Nat.le_refl _
  | d :: ds => by have := length_le_sizes ds; have := size_pos d; rw [List.length_cons, sizes]; omega
mutual
inductive Rep (G : Hp) : V → D → Prop
  | int (i : Int) : Rep G (.int i) (.int i)
  | str (x : Str) : Rep G (.str x) (.str x)
  | bl (b : Bool) : Rep G (.bl b) (.bl b)
  | non : Rep G .non .non
  | lst {a : Addr} {vs : List V} {ds : List D} (h : G a = some (.lst vs)) (r : Reps G vs ds) : Rep G (.ref a) (.lst ds)
  | tup {a : Addr} {vs : List V} {ds : List D} (h : G a = some (.tup vs)) (r : Reps G vs ds) : Rep G (.ref a) (.tup ds)
inductive Reps (G : Hp) : List V → List D → Prop
  | nil : Reps G [] []
  | cons {v : V} {vs : List V} {d : D} {ds : List D} (r : Rep G v d) (t : Reps G vs ds) : Reps G (v :: vs) (d :: ds)
end
mutual
theorem Rep.mono {G G' : Hp} (e : Same G G') : ∀ {v : V} {d : D}, Rep G v d → Rep G' v d
  | _, _, .int i => .int i
  | _, _, .str x => .str x
  | _, _, .bl b => .bl b
  | _, _, .non => .non
  | _, _, .lst h r => .lst (e _ _ h) (Reps.mono e r)
  | _, _, .tup h r => .tup (e _ _ h) (Reps.mono e r)
theorem Reps.mono {G G' : Hp} (e : Same G G') : ∀ {vs : List V} {ds : List D}, Reps G vs ds → Reps G' vs ds
  | _, _, .nil => .nil
  | _, _, .cons r t => .cons (Rep.mono e r) (Reps.mono e t)
end
section
variable {G : Hp}
theorem Reps.length : ∀ {vs : List V} {ds : List D}, Reps G vs ds → vs.length = ds.length
  | _, _, .nil => rfl
  | _, _, .cons _ t => by rw [List.length_cons, List.length_cons, Reps.length t]
theorem Reps.append : ∀ {vs ws : List V} {ds es : List D}, Reps G vs ds → Reps G ws es → Reps G (vs ++ ws) (ds ++ es)
  | _, _, _, _, .nil, s => s
  | _, _, _, _, .cons r t, s => .cons r (Reps.append t s)
theorem Reps.take : ∀ {vs : List V} {ds : List D} (n : Nat), Reps G vs ds → Reps G (vs.take n) (ds.take n)
  | _, _, 0, _ => .nil
  | _, _, _ + 1, .nil => .nil
  | _, _, n + 1, .cons r t => .cons r (Reps.take n t)
theorem Reps.drop : ∀ {vs : List V} {ds : List D} (n : Nat), Reps G vs ds → Reps G (vs.drop n) (ds.drop n)
  | _, _, 0, r => r
  | _, _, _ + 1, .nil => .nil
  | _, _, n + 1, .cons _ t => Reps.drop n t
theorem Reps.get : ∀ {vs : List V} {ds : List D} {i : Nat} {d : D}, Reps G vs ds → ds[i]? = some d → ∃ v, vs[i]? = some v ∧ Rep G v d
  | _, _, _, _, .nil, e => by simp at e
  | _, _, 0, _, .cons r _, e => by simp at e; subst e; exact ⟨_, rfl, r⟩
  | _, _, i + 1, d, .cons _ t, e => by
    obtain ⟨v, h1, h2⟩ := Reps.get (i := i) (d := d) t (by simpa using e)
    exact ⟨v, by simpa using h1, h2⟩
theorem Reps.at : ∀ {vs : List V} {ds : List D} {i : Nat} {v : V}, Reps G vs ds → vs[i]? = some v → ∃ d, ds[i]? = some d ∧ Rep G v d
  | _, _, _, _, .nil, e => by simp at e
  | _, _, 0, _, .cons r _, e => by simp at e; subst e; exact ⟨_, rfl, r⟩
  | _, _, i + 1, d, .cons _ t, e => by
    obtain ⟨v, h1, h2⟩ := Reps.at (i := i) (v := d) t (by simpa using e)
    exact ⟨v, by simpa using h1, h2⟩
theorem reps_ints {vs : List V} {p : List Int} (h : Reps G vs (p.map D.int)) : vs = p.map V.int := by
  induction p generalizing vs with
  | nil => cases h; rfl
  | cons i p ih =>
    cases h with
    | cons r t => cases r; rw [List.map_cons, ih t]
theorem ints_reps : ∀ (p : List Int), Reps G (p.map V.int) (p.map D.int)
  | [] => .nil
  | i :: p => .cons (.int i) (ints_reps p)
end

/-! ### trees as data -/
mutual
noncomputable def Tr.d : Tr → D
  | .node m ks => .tup (.str m :: dOf ks)
noncomputable def dOf : List Tr → List D
  | [] => []
  | t :: ts => t.d :: dOf ts
end
theorem dOf_map : ∀ ts : List Tr, dOf ts = ts.map Tr.d
  | [] => rfl
  | t :: ts => by rw [dOf, dOf_map ts, List.map_cons]
theorem tree_d (t : Tr) : t.d = .tup (.str t.mark :: t.kids.map Tr.d) := by cases t; rw [Tr.d, dOf_map]; rfl
mutual
theorem Tr.d_size : ∀ t : Tr, t.d.size = 2 * t.knots
  | .node m ks => by rw [Tr.d, D.size, sizes, D.size, dOf_size ks, Tr.knots]; omega
theorem dOf_size : ∀ ts : List Tr, sizes (dOf ts) = 2 * knotsOf ts
  | [] => rfl
  | t :: ts => by rw [dOf, sizes, Tr.d_size t, dOf_size ts, knotsOf]; omega
end
noncomputable def rowD (ts : List Tr) : D := .lst (ts.map Tr.d)
theorem rowD_size (ts : List Tr) : (rowD ts).size = 1 + 2 * knotsOf ts := by rw [rowD, D.size, ← dOf_map, dOf_size]
noncomputable def pathD (p : List Int) : D := .lst (p.map D.int)
theorem sizes_ints : ∀ p : List Int, sizes (p.map D.int) = p.length
  | [] => rfl
  | i :: p => by rw [List.map_cons, sizes, sizes_ints p, List.length_cons, D.size]; omega
theorem pathD_size (p : List Int) : (pathD p).size = 1 + p.length := by rw [pathD, D.size, sizes_ints]
section
variable {G : Hp}
theorem Rep.row {v : V} {ts : List Tr} (r : Rep G v (rowD ts)) : ∃ a vs, v = .ref a ∧ G a = some (.lst vs) ∧ Reps G vs (ts.map Tr.d) := by
  cases r with
  | lst h t => exact ⟨_, _, rfl, h, t⟩
theorem Rep.tree {v : V} {t : Tr} (r : Rep G v t.d) : ∃ a vs, v = .ref a ∧ G a = some (.tup (.str t.mark :: vs)) ∧ Reps G vs (t.kids.map Tr.d) := by
  rw [tree_d] at r
  cases r with
  | tup h t =>
    cases t with
    | cons r t =>
      cases r
      exact ⟨_, _, rfl, h, t⟩
theorem Rep.path {v : V} {p : List Int} (r : Rep G v (pathD p)) : ∃ a, v = .ref a ∧ G a = some (.lst (p.map V.int)) := by
  cases r with
  | lst h t =>
    have e := reps_ints t
    subst e
    exact ⟨_, rfl, h⟩
end

/-! ### what is frozen (G) of what stands (H), and how both grow -/
structure Ext (G H G' H' : Hp) : Prop where
  g : Same G G'
  gh : Same G' H'
  h : Same H H'
  new : ∀ a o, H a = some o → G' a = G a
section
variable {G H G1 H1 G2 H2 : Hp} {p : Addr} {o : HO}
theorem Ext.refl (s : Same G H) : Ext G H G H := ⟨Same.refl G, s, Same.refl H, fun _ _ _ => rfl⟩
theorem Ext.trans (a : Ext G H G1 H1) (b : Ext G1 H1 G2 H2) : Ext G H G2 H2 :=
  ⟨a.g.trans b.g, b.gh, a.h.trans b.h, fun c u e => (b.new c u (a.h c u e)).trans (a.new c u e)⟩
theorem same_upd (n : H p = none) : Same H (upd H p o) := fun b u e => by
  rw [upd_ne (ne_of_none e n)]; exact e
theorem Ext.add (s : Same G H) (n : H p = none) : Ext G H (upd G p o) (upd H p o) := by
  have ng : G p = none := by
    cases e : G p with
    | none => rfl
    | some u => rw [s p u e] at n; cases n
  refine ⟨same_upd ng, fun b u e => ?_, same_upd n, fun b u e => ?_⟩
  · by_cases hb : b = p
    · subst hb; rw [upd_same] at e ⊢; exact e
    · rw [upd_ne hb] at e ⊢; exact s b u e
  · exact upd_ne (ne_of_none e n)
theorem Ext.keep (x : Ext G H G1 H1) {a : Addr} {u : HO} (h : H a = some u) (n : G a = none) : G1 a = none := (x.new a u h).trans n
/-- a list that is not frozen is changed -/
theorem same_mut {a : Addr} (s : Same G H) (n : G a = none) : Same G (upd H a o) := fun b u e => by
  rw [upd_ne (ne_of_none e n)]; exact s b u e
/-- something new that is not frozen -/
theorem _root_.L2.Same.none {a : Addr} (s : Same G H) (n : H a = Option.none) : G a = Option.none := by
  cases e : G a with
  | none => rfl
  | some u => rw [s a u e] at n; cases n
end
end TT
namespace TT
open PySem PySem.Spec PyProof.Rows L2

/-! ### the order of two lists of ints, as the machine asks it -/
section
open PySem.SeqAt PySem.MeetsSeq PySem.MeetsSeq2 PySem.MeetsSeq3 HT
open PySem.AutoSeq1 (wpAny_loadPart')
theorem ints_at {us : List Value} {ns : List Int} (h : IntsAre us ns) : ∀ {i : Nat} {k : Int}, ns[i]? = some k → ∃ t, us[i]? = some (.int k t) := by
  induction h with
  | nil => intro i k e; simp at e
  | cons a t _ ih =>
    intro i k e
    cases i with
    | zero => simp at e; subst e; exact ⟨t, rfl⟩
    | succ i => obtain ⟨u, hu⟩ := ih (i := i) (k := k) (by simpa using e); exact ⟨u, by simpa using hu⟩
set_option maxHeartbeats 1000000 in
theorem less_loop (l b : Addr) (xs ys : Array Value) (c1 c2 : Nat) (d1 d2 : Option Addr) (s1 s2 : Array (Option Value)) (ns ms : List Int) (hi : IntsAre xs.toList ns) (hj : IntsAre ys.toList ms) (k : Nat) :
    ∀ i : Nat, xs.size - i = k → i ≤ xs.size → i ≤ ys.size → Meets (Builtin.«list.__eq__.loop» ⟨[.ref l, .ref b, rawInt i, rawInt 0], []⟩)
      (fun _ R s => s.heap.get? l = some ⟨.type "list", d1, .seq xs c1, s1⟩ ∧ s.heap.get? b = some ⟨.type "list", d2, .seq ys c2, s2⟩ ∧ R (.ok (.ret (.bool (HT.lexLt (ns.drop i) (ms.drop i))))) s) := by
  have z1 : xs.size = ns.length := by rw [← hi.length]; simp
  have z2 : ys.size = ms.length := by rw [← hj.length]; simp
  induction k with
  | zero =>
    intro i hk h1 h2 prog w A R s h
    obtain ⟨hp, g, d, tk, os⟩ := s
    obtain ⟨ha, hb, h⟩ := h
    wp_walk using wpAny_loadPart' ha, wpAny_loadPart' hb
    have e1 : xs[((i : Nat) : Int).toNat]? = none := by simp; omega
    have en : ns.drop i = [] := List.drop_of_length_le (by omega)
    rw [en] at h
    by_cases hy : i < ys.size
    · have e2 : ys[((i : Nat) : Int).toNat]? = some ys[i] := by simp [hy]
      rw [e1, e2]
      wp_walk using wpAny_loadPart' ha, wpAny_loadPart' hb
      show R (.ok (.ret (.bool (decide (xs.size < ys.size))))) _
      have em : HT.lexLt [] (ms.drop i) = decide (xs.size < ys.size) := by
        rw [List.drop_eq_getElem_cons (show i < ms.length by omega)]
        exact (decide_eq_true (by omega)).symm
      rw [← em]
      exact h
    · have e2 : ys[((i : Nat) : Int).toNat]? = none := by simp; omega
      rw [e1, e2]
      wp_walk using wpAny_loadPart' ha, wpAny_loadPart' hb
      show R (.ok (.ret (.bool (decide (xs.size < ys.size))))) _
      have em : HT.lexLt [] (ms.drop i) = decide (xs.size < ys.size) := by
        rw [List.drop_of_length_le (show ms.length ≤ i by omega)]
        exact (decide_eq_false (by omega)).symm
      rw [← em]
      exact h
  | succ k ih =>
    intro i hk h1 h2 prog w A R s h
    obtain ⟨hp, g, d, tk, os⟩ := s
    obtain ⟨ha, hb, h⟩ := h
    wp_walk using wpAny_loadPart' ha, wpAny_loadPart' hb
    have hx : i < xs.size := by omega
    have hxn : i < ns.length := by omega
    obtain ⟨ta, ea⟩ := ints_at hi (i := i) (k := ns[i]) (by simp [hxn])
    have e1 : xs[((i : Nat) : Int).toNat]? = some (.int ns[i] ta) := by rw [Int.toNat_natCast, ← Array.getElem?_toList]; exact ea
    by_cases hy : i < ys.size
    · have hyn : i < ms.length := by omega
      obtain ⟨tc, ec⟩ := ints_at hj (i := i) (k := ms[i]) (by simp [hyn])
      have e2 : ys[((i : Nat) : Int).toNat]? = some (.int ms[i] tc) := by rw [Int.toNat_natCast, ← Array.getElem?_toList]; exact ec
      rw [e1, e2]
      have hd : HT.lexLt (ns.drop i) (ms.drop i) = if ns[i] = ms[i] then HT.lexLt (ns.drop (i + 1)) (ms.drop (i + 1)) else decide (ns[i] < ms[i]) := by
        rw [List.drop_eq_getElem_cons hxn, List.drop_eq_getElem_cons hyn]
        all_goals rfl
      rw [hd] at h
      have hc : ((i : Int) + 1) = ((i + 1 : Nat) : Int) := by push_cast; rfl
      obtain ⟨e, he, hiff⟩ := eqAt_int A.in1 ⟨hp, g, d, tk, os⟩ ns[i] ta ms[i] tc
      refine wpAny_bind (he prog w _ _ ?_)
      cases e with
      | true =>
        rw [if_pos (hiff.mp rfl)] at h
        wp_walk
        rw [hc]
        exact ⟨plainId_quiet plain_eq_loop _, codeAny_builtin entry_eq_loop (by
          rw [Around.under_plainId plain_eq_loop _]
          exact ih (i + 1) (by omega) (by omega) (by omega) prog w A R _ ⟨ha, hb, h⟩)⟩
      | false =>
        rw [if_neg (fun q => absurd (hiff.mpr q) Bool.false_ne_true)] at h
        have hri := rcLt_int A.in1 ⟨hp, g, d, tk, os⟩ ns[i] ta ms[i] tc prog w
        wp_walk using wpAny_loadPart' ha, wpAny_loadPart' hb
        rw [e1, e2]
        wp_walk using hri
        exact h
    · have e2 : ys[((i : Nat) : Int).toNat]? = none := by simp; omega
      rw [e1, e2]
      wp_walk using wpAny_loadPart' ha, wpAny_loadPart' hb
      show R (.ok (.ret (.bool (decide (xs.size < ys.size))))) _
      have em : HT.lexLt (ns.drop i) (ms.drop i) = decide (xs.size < ys.size) := by
        rw [List.drop_of_length_le (show ms.length ≤ i by omega), List.drop_eq_getElem_cons hxn]
        exact (decide_eq_false (by omega)).symm
      rw [← em]
      exact h
theorem less_ints (l b : Addr) (xs ys : Array Value) (c1 c2 : Nat) (d1 d2 : Option Addr) (s1 s2 : Array (Option Value)) (ns ms : List Int) (hi : IntsAre xs.toList ns) (hj : IntsAre ys.toList ms) :
    Meets (Builtin.«list.__lt__» ⟨[.ref l, .ref b], []⟩)
      (fun _ R s => s.heap.get? l = some ⟨.type "list", d1, .seq xs c1, s1⟩ ∧ s.heap.get? b = some ⟨.type "list", d2, .seq ys c2, s2⟩ ∧ R (.ok (.ret (.bool (HT.lexLt ns ms)))) s) := by
  intro prog w A R s h
  obtain ⟨hp, g, d, tk, os⟩ := s
  obtain ⟨ha, hb, h⟩ := h
  have f3 := AutoSeq1.sub_list_list
  wp_walk using wpAny_loadPart' ha, wpAny_loadPart' hb
  exact ⟨plainId_quiet plain_eq_loop _, codeAny_builtin entry_eq_loop (by
    rw [Around.under_plainId plain_eq_loop _]
    exact less_loop l b xs ys c1 c2 d1 d2 s1 s2 ns ms hi hj _ 0 rfl (Nat.zero_le _) (Nat.zero_le _) prog w A R _ ⟨ha, hb, by simpa using h⟩)⟩
theorem sortLt_list {prog : Program} {w : World} {A : Around} {E : Value → Shared → Prop} {s : Shared} {l b : Addr} {xs ys : Array Value} {ns ms : List Int} {Q : Bool → Shared → Prop} (hl : s.heap.IsList l xs) (hb : s.heap.IsList b ys)
    (hi : IntsAre xs.toList ns) (hj : IntsAre ys.toList ms) (hu : A.units < cLine) (h : Q (HT.lexLt ns ms) s) : wpAny (model prog w) A (oneLt' true (.ref l) (.ref b)) Q E s := by
  obtain ⟨⟨c1, d1, dt1, sl1⟩, ho, hc, n, hd⟩ := id hl
  obtain ⟨⟨c2, d2, dt2, sl2⟩, ho2, hc2, n2, hd2⟩ := id hb
  simp only at hc hd hc2 hd2
  subst hc hd hc2 hd2
  rw [oneLt'_eq]
  simp only [if_true]
  refine wpAny_bind (wpAny_cRoomFor hu ?_)
  refine wpAny_bind (wpAny_callSpecialIfBound?_slot (T := "list") ⟨_, ho, rfl⟩ PySem.F.slot_list_lt (call_meets PySem.F.slot_list_lt ⟨_, ho, rfl⟩ PySem.F.entry_list_lt (PySem.F.args_list_lt_2 _ _) (less_ints l b xs ys n n2 d1 d2 sl1 sl2 ns ms hi hj) ⟨ho, ho2, ?_⟩))
  exact wpAny_truthy_bool h
end

/-! ### sorted of one item or none -/
section
variable {prog : Program} {w : World} {A : Around} {E : Value → Shared → Prop} {s : Shared}
theorem sort_short {a : Addr} {us : List Value} {n : Nat} {P : PySem.Fin → Shared → Prop} (ho : s.heap.get? a = some (seqObj "list" us.toArray n)) (h2 : us.length < 2)
    (h : ∀ h' c, (∀ b o, b ≠ a → s.heap.get? b = some o → h'.get? b = some o) → h'.get? a = some (seqObj "list" us.toArray c) → P (.done (.ret .none)) { s with heap := h' }) :
    wpAny (model prog w) A (Builtin.«list.sort» ⟨[.ref a], []⟩) P E s := by
  have small : us.length ≤ sizeLine := by rw [sizeLine_eq]; omega
  have hlt : a < s.heap.objs.size := Heap.lt_size ho
  rw [list_sort_plain]
  refine wpAny_bind (listItems_at ho rfl ?_)
  refine wpAny_bind (listUpdate_at ho rfl ?_ (by rw [List.size_toArray]; exact small) (Nat.zero_le _))
  obtain ⟨k1, hk1⟩ : ∃ k1, (s.heap.update a (Obj.mapSeq fun _ => (#[] : Array Value))).get? a = some (seqObj "list" #[] k1) := ⟨_, get?_update_seq ho fun _ => #[]⟩
  refine wpAny_bind (seqEpoch_at hk1 rfl ?_)
  refine wpAny_bind (wpAny_newTuple ?_ (by show us.length ≤ _; exact small))
  refine wpAny_bind (wpAny_newList ?_ (Nat.zero_le _))
  refine wpAny_holding ?_
  have hk2 : (((s.heap.update a (Obj.mapSeq fun _ => (#[] : Array Value))).push (seqObj "tuple" us.toArray 0)).push (seqObj "list" #[] 0)).get? a = some (seqObj "list" #[] k1) := Heap.get?_push_of_some _ (Heap.get?_push_of_some _ hk1)
  show wpAny (model prog w) A _ P E { s with heap := ((s.heap.update a (Obj.mapSeq fun _ => (#[] : Array Value))).push (seqObj "tuple" us.toArray 0)).push (seqObj "list" #[] 0) }
  dsimp only
  have hs : us.toArray.size < 2 := by rw [List.size_toArray]; exact h2
  rw [if_pos hs, if_pos hs]
  refine wpAny_bind (wpAny_pure ?_)
  rw [StateT.run_pure]
  refine wpAny_bind (wpAny_pure ?_)
  dsimp only
  have eo : (arrOf (SortSt.mk' general' (us.toArray.zip us.toArray) #[] 7 none)).map (·.2) = us.toArray := by
    show (us.toArray.zip us.toArray).map (·.2) = us.toArray
    apply Array.toList_inj.mp
    simp only [Array.toList_map, Array.toList_zip]
    exact List.map_snd_zip (Nat.le_refl _)
  rw [eo]
  refine wpAny_bind (seqEpoch_at hk2 rfl ?_)
  refine wpAny_bind (listUpdate_at hk2 rfl ?_ (Nat.zero_le _) (by show us.length ≤ _; omega))
  simp only [bne_self_eq_false, Bool.false_eq_true, if_false]
  obtain ⟨k3, hk3⟩ : ∃ k3, ((((s.heap.update a (Obj.mapSeq fun _ => (#[] : Array Value))).push (seqObj "tuple" us.toArray 0)).push (seqObj "list" #[] 0)).update a (Obj.mapSeq fun _ => us.toArray)).get? a = some (seqObj "list" us.toArray k3) :=
    ⟨_, get?_update_seq hk2 fun _ => us.toArray⟩
  refine wpAny_pure (h _ k3 (fun b o hb e => ?_) hk3)
  rw [Heap.get?_update_other _ _ (Ne.symm hb)]
  exact Heap.get?_push_of_some _ (Heap.get?_push_of_some _ ((Heap.get?_update_other _ _ (Ne.symm hb)).trans e))
theorem sorted_short {l : Addr} {us : List Value} {Q : Value → Shared → Prop} (hl : s.heap.IsList l us.toArray) (h2 : us.length < 2)
    (h : ∀ p h' c, s.heap.objs.size ≤ p → (∀ b o, s.heap.get? b = some o → h'.get? b = some o) → h'.get? p = some (seqObj "list" us.toArray c) → Q (.ref p) { s with heap := h' }) :
    wpAny (model prog w) A (call (.builtin "sorted") [.ref l]) Q E s := by
  have small : us.toArray.size ≤ sizeLine := by rw [List.size_toArray, sizeLine_eq]; omega
  refine Calls.call_function_entry kind_sorted plain_sorted entry_sorted (args_sorted1 _) ?_
  unfold Builtin.«sorted»
  refine wpAny_bind (m := checkCount "sorted" 1 1 _) (wpAny_pure ?_)
  refine wpAny_bind (collect_list hl ?_ small)
  refine wpAny_bind (wpAny_newList ?_ (by rw [← List.size_toArray]; exact small))
  have z : ((s.heap.push (seqObj "list" #[] 0)).update s.heap.objs.size (Obj.mapSeq (· ++ us.toArray))).objs.size = s.heap.objs.size + 1 := by rw [Heap.size_update, size_push']
  have at1 : (((s.heap.push (seqObj "list" #[] 0)).update s.heap.objs.size (Obj.mapSeq (· ++ us.toArray))).push (seqObj "list" us.toArray 0)).get? (s.heap.objs.size + 1) = some (seqObj "list" us.toArray 0) := by
    rw [← z]; exact Heap.get?_push_size _ rfl
  have old : ∀ b o, s.heap.get? b = some o → (((s.heap.push (seqObj "list" #[] 0)).update s.heap.objs.size (Obj.mapSeq (· ++ us.toArray))).push (seqObj "list" us.toArray 0)).get? b = some o := fun b o q => by
    have hb := Heap.lt_size q
    refine Heap.get?_push_of_some _ ?_
    rw [Heap.get?_update_other _ _ (Nat.ne_of_gt hb)]
    exact Heap.get?_push_of_some _ q
  show wpAny _ _ _ _ _ { s with heap := ((s.heap.push (seqObj "list" #[] 0)).update s.heap.objs.size (Obj.mapSeq (· ++ us.toArray))).push (seqObj "list" us.toArray 0) }
  rw [z]
  refine wpAny_bind (wpAny_holding (wpAny_call_entry slot_list_sort ⟨_, at1, rfl⟩ entry_list_sort ?body (args_list_sort _)))
  case body =>
    refine sort_short (s := { s with heap := ((s.heap.push (seqObj "list" #[] 0)).update s.heap.objs.size (Obj.mapSeq (· ++ us.toArray))).push (seqObj "list" us.toArray 0) }) at1 h2 fun h' c kp e => ⟨_, rfl, ?_⟩
    refine wpAny_pure ⟨_, rfl, h _ h' c (Nat.le_succ _) (fun b o q => kp b o ?_ (old b o q)) e⟩
    exact Nat.ne_of_lt (Nat.lt_succ_of_lt (Heap.lt_size q))
end

/-! ### what was laid while records turned -/
theorem ns_one {h : Heap} {a : Addr} {m m' : Str → Option Value} (x : h.Ns a m) (y : h.Ns a m') : m = m' := by
  obtain ⟨o, es, ep, ho, hd, _, hm⟩ := x
  obtain ⟨o', es', ep', ho', hd', _, hm'⟩ := y
  rw [ho] at ho'
  cases ho'
  rw [hd] at hd'
  cases hd'
  funext z
  rw [← hm z, ← hm' z]
section
variable {X : Cx} {pins : List (Addr × Obj)} {σ : L2.St} {H : Hp} {s : Shared} {h' : Heap}
/-- a new object is tracked; of the frame only the names' values are known to stay -/
theorem laidL {t' : Nat} {p : Addr} {o : HO} {m : Str → Option Value} (I : Inv X pins σ H s) (hm : s.heap.Ns X.env.locals m) (hm' : h'.Ns X.env.locals m) (k : ∀ b u, b ≠ X.env.locals → s.heap.get? b = some u → h'.get? b = some u) (hn : H p = none)
    (nf : ∀ b u, s.heap.get? b = some u → H b = none → b ≠ p) (new : ObjOk X.prog X.w (upd H p o) h' p o) : Inv X pins σ (upd H p o) { s with heap := h', toks := t' } := by
  have nL : ∀ b u, H b = some u → b ≠ X.env.locals := fun b u e z => by rw [z, I.free] at e; cases e
  have ths : ∀ b ob, s.heap.get? b = some ob → ∃ o', h'.get? b = some o' := fun b ob e => by
    by_cases hb : b = X.env.locals
    · obtain ⟨ob', _, _, ho, _⟩ := hm'
      exact ⟨ob', by rw [hb]; exact ho⟩
    · exact ⟨ob, k b ob hb e⟩
  refine I.step (g' := s.gens) (d' := s.drawn) (ch := []) (fun _ z => nomatch z) (fun b ob hL _ _ e _ => k b ob hL e) (fun b ob hL _ _ e _ => ⟨ob.slots, k b ob hL e⟩) (fun b ob _ e n => by rw [upd_ne (nf b ob e n)]; exact n)
    (fun b ob _ e => ths b ob e) (fun b xs e => by rw [upd_ne (ne_of_none e hn)]; exact e) (fun b ob xs e => by rw [upd_ne (ne_of_none e hn)]; exact e) (fun b ps e => ⟨#[], by rw [upd_ne (ne_of_none e hn), e]; simp⟩) (fun m2 h2 => ?_) (fun b u e => ?_) I.bare
  · rw [ns_one h2 hm]
    exact hm'
  · by_cases hb : b = p
    · subst hb
      rw [upd_same] at e
      cases e
      exact new
    · rw [upd_ne hb] at e
      refine (I.hok b u e).stay (fun c v hc q => k c v ?_ q) (fun c q => by rw [upd_ne (ne_of_none q hn)]; exact q) fun c xs q => by rw [upd_ne (ne_of_none q hn)]; exact q
      rcases hc with rfl | hc
      · exact nL c u e
      · exact nL c _ hc
end

/-! ### sorted(paths) -/
theorem paired_get {α β : Type} {R : α → β → Prop} : ∀ {xs : List α} {ys : List β} {i : Nat} {x : α} {y : β}, Paired R xs ys → xs[i]? = some x → ys[i]? = some y → R x y
  | _, _, _, _, _, .nil, e, _ => by simp at e
  | _, _, 0, _, _, .cons r _, e, f => by simp at e f; subst e f; exact r
  | _, _, i + 1, _, _, .cons _ t, e, f => paired_get (i := i) t (by simpa using e) (by simpa using f)
theorem paired_length {α β : Type} {R : α → β → Prop} : ∀ {xs : List α} {ys : List β}, Paired R xs ys → xs.length = ys.length
  | _, _, .nil => rfl
  | _, _, .cons _ t => by rw [List.length_cons, List.length_cons, paired_length t]
theorem paired_pick {α β : Type} {R : α → β → Prop} {xs : List α} {ys : List β} {dx : α} {dy : β} (h : Paired R xs ys) : ∀ q : List Nat, (∀ i ∈ q, i < xs.length) → Paired R (q.map fun i => xs.getD i dx) (q.map fun i => ys.getD i dy)
  | [], _ => .nil
  | i :: q, hq => by
    have hi := hq i List.mem_cons_self
    have hl := paired_length h
    refine .cons ?_ (paired_pick h q fun j hj => hq j (List.mem_cons_of_mem _ hj))
    refine paired_get (i := i) h ?_ ?_
    · show xs[i]? = some (xs.getD i dx)
      rw [List.getD_eq_getElem?_getD]; simp [hi]
    · show ys[i]? = some (ys.getD i dy)
      rw [List.getD_eq_getElem?_getD]; simp [← hl, hi]
theorem pick_range {α : Type} (ys : List α) (d : α) : (List.range ys.length).map (fun i => ys.getD i d) = ys := by
  apply List.ext_getElem?
  intro i
  by_cases h : i < ys.length
  · rw [List.getElem?_map, List.getElem?_eq_getElem (show i < (List.range ys.length).length by simpa using h)]
    simp [h]
  · rw [List.getElem?_eq_none_iff.mpr (by simpa using h), List.getElem?_eq_none_iff.mpr (by omega)]
theorem obj_ex {P : Program} {w : World} {H : Hp} {h : Heap} {a : Addr} {o : HO} (x : ObjOk P w H h a o) : ∃ ob, h.get? a = some ob := by
  cases o with
  | lst xs => obtain ⟨_, _, _, _, e⟩ := x; exact ⟨_, e⟩
  | tup xs => obtain ⟨_, _, _, ob, e, _⟩ := x; exact ⟨_, e⟩
  | dK kvs => obtain ⟨_, _, _, _, o, _, _, e, _⟩ := x; exact ⟨_, e⟩
  | dT kvs => obtain ⟨_, _, _, _, o, _, _, e, _⟩ := x; exact ⟨_, e⟩
  | set S n => obtain ⟨o, _, _, _, e, _⟩ := x; exact ⟨_, e⟩
  | ins C dx fs => obtain ⟨_, _, _, e, _⟩ := x; exact ⟨_, e⟩
  | own y => exact x
  | xd fs => obtain ⟨_, ⟨_, _, _, e, _⟩, _⟩ := x; exact ⟨_, e⟩
  | rng lo hi => obtain ⟨_, _, _, e⟩ := x; exact ⟨_, e⟩
  | frz ob u => exact ⟨_, x.1⟩
  | tbl ps => exact ⟨_, x⟩
  | met f y => exact ⟨_, x⟩
  | ext φ => exact x.2.1
noncomputable def rSorted (K : PySem.W.Frag) : List V → Hp → VK → Prop := fun xs H Q => ∃ (p : Addr) (vs : List V) (ps : List (List Int)) (R : V → List Int → Prop), xs = [.ref p] ∧ SqL K H p vs ∧ Paired R vs ps ∧
  (∀ v q, R v q → ∃ a, v = .ref a ∧ H a = some (.lst (q.map V.int))) ∧ ps.length < 64 ∧ ∀ l vs' ps', H l = none → Paired R vs' ps' → ps'.Perm ps → Rising ps' → Q (.ref l) (upd H l (.lst vs'))
section
variable {X : Cx}
theorem call_sorted (hu : X.A.in1.in1.units < cLine) : CallR X (.builtin "sorted") (rSorted X.K) := by
  intro pins s σ H xs us Q I r h
  obtain ⟨p, vs, ps, R, rfl, hq, hR, hA, h64, k⟩ := h
  obtain ⟨u, rfl, rx⟩ := vals1 r
  cases rx
  obtain ⟨its, rv, pl, hz⟩ := I.list hq
  have hl := rv.length
  have hl2 := paired_length hR
  by_cases h2 : its.length < 2
  · refine sorted_short pl.isList h2 fun D h' c hD kp e => ?_
    refine ⟨.ref D, _, I.laid (t' := s.toks) (o := .lst vs) kp hD ⟨hz, its, c, rv, e⟩, rfl, k D vs ps (I.hok.fresh hD) hR (List.Perm.refl _) ?_⟩
    have : ps.length < 2 := by omega
    match ps, this with
    | [], _ => exact List.Pairwise.nil
    | [_], _ => exact List.pairwise_singleton _ _
    | _ :: _ :: _, z => simp at z <;> omega
  · obtain ⟨m, F⟩ := I.fr
    have hm : s.heap.Ns X.env.locals m := F.ns
    have N : News X.base X.env.locals s.heap (allNews X.base s.heap X.env.locals) := news_all
    -- every item is a tracked list of ints
    have item : ∀ i, i < its.length → ∃ (a : Addr) (ks : List Value) (c : Nat), its.getD i Value.none = .ref a ∧ Vals ((ps.getD i []).map V.int) ks ∧ (a, ({ cls := .type "list", data := .seq ks.toArray c } : Obj)) ∈ allNews X.base s.heap X.env.locals := fun i hi => by
      have e1 : vs[i]? = some vs[i] := by simp [show i < vs.length by omega]
      have e2 : ps[i]? = some (ps.getD i []) := by rw [List.getD_eq_getElem?_getD]; simp [show i < ps.length by omega]
      obtain ⟨a, ea, ha⟩ := hA _ _ (paired_get hR e1 e2)
      obtain ⟨_, ks, c, rk, eo⟩ := I.hok a _ ha
      obtain ⟨u, eu, ru⟩ := rv.get e1
      rw [ea] at ru
      cases ru
      refine ⟨a, ks, c, ?_, rk, mem_allNews (fun z => ?_) ?_ eo⟩
      · rw [List.getD_eq_getElem?_getD, eu]; rfl
      · rw [z, I.free] at ha; cases ha
      · cases q : X.base.get? a with
        | none => rfl
        | some ob => rw [(I.bs a ob q).2] at ha; cases ha
    have item' : ∀ v ∈ its, ∃ (a : Addr) (ob : Obj), v = .ref a ∧ ob.cls = .type "list" ∧ (a, ob) ∈ allNews X.base s.heap X.env.locals := fun v hv => by
      obtain ⟨i, hi, ei⟩ := List.mem_iff_getElem.mp hv
      obtain ⟨a, ks, c, e1, _, e3⟩ := item i hi
      refine ⟨a, _, ?_, rfl, e3⟩
      rw [← e1, List.getD_eq_getElem?_getD]; simp [hi, ei]
    refine PySem.W.kas_sorted (T := .type "list") F N pl.isList (by omega) (by omega) (fun h Fh Nh v hv => ?_) (by decide) fun D e1 h' F' N' hD => ?_
    · obtain ⟨a, ob, rfl, hc, hmem⟩ := item' v hv
      exact PySem.W.kitAt_ty _ h ⟨ob, (Nh _ hmem).1, hc⟩
    · have O : POrd fun i j => HT.lexLt (ps.getD i []) (ps.getD j []) := ⟨fun a => lex_irr _, fun a b c => lex_tr _ _ _, fun a b c => lex_neg _ _ _⟩
      refine kas_sort_ok O (fun i j C hi hj hC => ?_) (by omega) fun q hq hs => ?_
      · obtain ⟨a, ks, c, ea, ra, ma⟩ := item i hi
        obtain ⟨b, ks2, c2, eb, rb, mb⟩ := item j hj
        unfold PySem.W.kas_ask
        rw [keyLt'_oneType, ea, eb]
        exact sortLt_list ⟨_, (N' _ (List.mem_cons_of_mem _ ma)).1, rfl, _, rfl⟩ ⟨_, (N' _ (List.mem_cons_of_mem _ mb)).1, rfl, _, rfl⟩ (intsAre_of ra) (intsAre_of rb) hu hC
      · refine PySem.W.KasFin.intro F' N' (.head fun z hz' => Nat.ne_of_lt (hD z hz')) fun h2' c F2 N2 => ?_
        have hDn : H D = none := by
          cases e : H D with
          | none => rfl
          | some u =>
            obtain ⟨ob, eo⟩ : ∃ ob, s.heap.get? D = some ob := obj_ex (I.hok D u e)
            exact absurd (hD _ (mem_allNews (N' _ List.mem_cons_self).2.1 (N' _ List.mem_cons_self).2.2 eo)) (Nat.lt_irrefl _)
        have hlen : q.size = its.length := hq.size
        have hin : ∀ i ∈ q.toList, i < its.length := fun i hi => by
          have : i ∈ List.toArray (List.range its.length) := (Array.Perm.mem_iff hq).mp (Array.mem_toList_iff.mp hi)
          simpa using this
        have keep : ∀ b u, b ≠ X.env.locals → s.heap.get? b = some u → h2'.get? b = some u := fun b u hb e => by
          cases e2 : X.base.get? b with
          | some ob =>
            have := I.bk b ob e2
            rw [e] at this
            cases this
            exact F2.keep b _ e2
          | none => exact (N2 (b, u) (List.mem_cons_of_mem _ (mem_allNews hb e2 e))).1
        have hperm : (q.toList.map fun i => ps.getD i []).Perm ps := by
          have hp2 : q.toList.Perm (List.range its.length) := by simpa using Array.perm_iff_toList_perm.mp hq
          have := hp2.map fun i => ps.getD i []
          rw [show its.length = ps.length by omega] at this
          exact this.trans (List.Perm.of_eq (pick_range ps []))
        refine ⟨.ref D, _, laidL (s := s) (h' := h2') (t' := s.toks) (o := .lst (q.toList.map fun i => vs.getD i .non)) I hm F2.ns keep hDn (fun b u e n z => ?_) ⟨?_, q.toList.map fun i => its.getD i Value.none, c, ?_, (N2 (D, _) List.mem_cons_self).1⟩, rfl,
          k D _ (q.toList.map fun i => ps.getD i []) hDn (paired_pick hR _ fun i hi => by have := hin i hi; omega) hperm ?_⟩
        · subst z
          exact absurd (hD _ (mem_allNews (N' _ List.mem_cons_self).2.1 (N' _ List.mem_cons_self).2.2 e)) (Nat.lt_irrefl _)
        · rw [List.length_map, Array.length_toList]; omega
        · exact paired_pick rv _ fun i hi => by have := hin i hi; omega
        · refine List.pairwise_map.mpr ?_
          rw [List.pairwise_iff_getElem]
          intro i j hi hj hij
          have := hs i j (Nat.le_of_lt hij) (by rw [Array.length_toList] at hj; omega)
          simpa [ple, pat, show i < q.size by rw [Array.length_toList] at hi; exact hi, show j < q.size by rw [Array.length_toList] at hj; exact hj] using this
end
end TT
namespace TT
open PySem PySem.Spec PyProof.Rows L2

/-! ### a list against the empty one -/
noncomputable def rNeE (K : PySem.W.Frag) : R2 := fun x y H Q => ∃ p q xs, x = .ref p ∧ y = .ref q ∧ SqL K H p xs ∧ SqL K H q [] ∧ Q (.bl (!xs.isEmpty)) H
noncomputable def rEqE (K : PySem.W.Frag) : R2 := fun x y H Q => ∃ p q xs, x = .ref p ∧ y = .ref q ∧ SqL K H p xs ∧ SqL K H q [] ∧ Q (.bl xs.isEmpty) H
section
variable {X : Cx}
theorem op_neE (hu : X.A.units < cLine) : OpR X (compareOp .NotEq) (rNeE X.K) := by
  intro pins s σ H x y v u Q I rx ry h
  obtain ⟨p, q, xs, rfl, rfl, hp, hq, k⟩ := h
  cases rx
  cases ry
  obtain ⟨its, r1, l1, _⟩ := I.list hp
  obtain ⟨its2, r2, l2, _⟩ := I.list hq
  have e2 : its2 = [] := r2.zero
  subst e2
  cases xs with
  | nil =>
    have e1 : its = [] := r1.zero
    subst e1
    refine SeqAt.RcNeAt.lists (e := fun _ => true) l1.isList l2.isList rfl hu (fun j h1 _ => absurd h1 (Nat.not_lt_zero j)) X.prog X.w X.xe _ ?_
    exact ⟨.bl false, H, I, rfl, k⟩
  | cons z zs =>
    refine SeqAt.RcNeAt.lists_lengths l1.isList l2.isList ?_ hu X.prog X.w X.xe _ ⟨.bl true, H, I, rfl, k⟩
    have := r1.length
    simp only [List.length_cons] at this
    simp only [List.size_toArray, List.length_nil, bne_iff_ne]
    omega
theorem op_eqE (hu : X.A.units < cLine) : OpR X (compareOp .Eq) (rEqE X.K) := by
  intro pins s σ H x y v u Q I rx ry h
  obtain ⟨p, q, xs, rfl, rfl, hp, hq, k⟩ := h
  cases rx
  cases ry
  obtain ⟨its, r1, l1, _⟩ := I.list hp
  obtain ⟨its2, r2, l2, _⟩ := I.list hq
  have e2 : its2 = [] := r2.zero
  subst e2
  cases xs with
  | nil =>
    have e1 : its = [] := r1.zero
    subst e1
    exact SeqAt.eq_listAt (e := fun _ => true) l1.isList l2.isList rfl hu (fun j h1 _ => absurd h1 (Nat.not_lt_zero j)) ⟨.bl true, H, I, rfl, k⟩
  | cons z zs =>
    refine SeqAt.eq_list_lengthsAt l1.isList l2.isList ?_ hu ⟨.bl false, H, I, rfl, k⟩
    have := r1.length
    simp only [List.length_cons] at this
    simp only [List.size_toArray, List.length_nil, bne_iff_ne]
    omega

/-! ### isinstance -/
noncomputable def rIsi (K : PySem.W.Frag) : List V → Hp → VK → Prop := fun xs H Q => ∃ x n t b, xs = [x, .ty n] ∧ TyOf K H x t ∧ PySem.W.kitOne K t (.type n) = some b ∧ Q (.bl b) H
theorem call_isi : CallR X (.builtin "isinstance") (rIsi X.K) := by
  intro pins s σ H xs us Q I r h
  obtain ⟨x, n, t, b, rfl, ty, e, k⟩ := h
  obtain ⟨u, w', rfl, r1, r2⟩ := vals2 r
  cases (show w' = Value.type n from r2)
  exact isinst_ok I r1 ty e fun tk => ⟨.bl b, H, I.tok tk, rfl, k⟩
/-- .. with a tuple of two classes -/
noncomputable def rIsi2 (K : PySem.W.Frag) : List V → Hp → VK → Prop := fun xs H Q => ∃ x tp n n' t b, xs = [x, .ref tp] ∧ H tp = some (.tup [.ty n, .ty n']) ∧ TyOf K H x t ∧ PySem.W.kitAny K t [.type n, .type n'] = some b ∧ Q (.bl b) H
theorem call_isi2 : CallR X (.builtin "isinstance") (rIsi2 X.K) := by
  intro pins s σ H xs us Q I r h
  obtain ⟨x, tp, n, n', t, b, rfl, htp, ty, e, k⟩ := h
  obtain ⟨u, w', rfl, r1, r2⟩ := vals2 r
  cases (show w' = Value.ref tp from r2)
  obtain ⟨_, its, ri, ob, eo, ec, m, ed⟩ := I.hok tp _ htp
  obtain ⟨c, dd, dt, sl⟩ := ob
  simp only at ec ed
  subst ec ed
  obtain ⟨y1, y2, rfl, q1, q2⟩ := ri.two
  cases (show y1 = Value.type n from q1)
  cases (show y2 = Value.type n' from q2)
  have fin : ∀ tk, EP X pins σ Q (.bool b) { s with toks := tk } := fun tk => ⟨.bl b, H, I.tok tk, rfl, k⟩
  cases ty with
  | non => cases (show u = Value.none from r1); exact PySem.W.kia_tup PySem.W.kitx_none I.kIn True.intro eo e (fun z => nomatch z) fin
  | bl y => cases (show u = Value.bool y from r1); exact PySem.W.kia_tup PySem.W.kitx_bool I.kIn True.intro eo e (fun z => nomatch z) fin
  | int i => obtain ⟨t, q⟩ := (show ∃ t, u = Value.int i t from r1); cases q; exact PySem.W.kia_tup PySem.W.kitx_int I.kIn True.intro eo e (fun z => nomatch z) fin
  | str y => obtain ⟨t, q⟩ := (show ∃ t, u = Value.str y t from r1); cases q; exact PySem.W.kia_tup PySem.W.kitx_str I.kIn True.intro eo e (fun z => nomatch z) fin
  | flt y => obtain ⟨t, q⟩ := (show ∃ t, u = Value.float y t from r1); cases q; exact PySem.W.kia_tup PySem.W.kitx_float I.kIn True.intro eo e (fun z => nomatch z) fin
  | @lst a zs ea =>
    cases (show u = Value.ref a from r1)
    obtain ⟨_, _, m2, _, h1⟩ := (show ObjOk X.prog X.w H s.heap a (.lst zs) from I.hok a _ ea)
    exact PySem.W.kia_tup PySem.W.kitx_list I.kIn ⟨_, h1, rfl⟩ eo e (fun z => nomatch z) fin
  | @frz a ob zs ea =>
    cases (show u = Value.ref a from r1)
    obtain ⟨_, _, _, m2, _, h1⟩ := (show ObjOk X.prog X.w H s.heap a (.frz ob (.lst zs)) from I.hok a _ ea)
    exact PySem.W.kia_tup PySem.W.kitx_list I.kIn ⟨_, h1, rfl⟩ eo e (fun z => nomatch z) fin
  | @tup a zs ea =>
    cases (show u = Value.ref a from r1)
    obtain ⟨_, _, _, p⟩ := (show ObjOk X.prog X.w H s.heap a (.tup zs) from I.hok a _ ea)
    obtain ⟨o, h1, h2, _⟩ := p
    exact PySem.W.kia_tup PySem.W.kitx_tuple I.kIn ⟨o, h1, h2⟩ eo e (fun z => nomatch z) fin
  | @dK a kvs ea =>
    cases (show u = Value.ref a from r1)
    obtain ⟨_, _, vs, _, p⟩ := (show ObjOk X.prog X.w H s.heap a (.dK kvs) from I.hok a _ ea)
    obtain ⟨o, es, ep, h1, h2, _⟩ := p
    exact PySem.W.kia_tup PySem.W.kitx_dict I.kIn ⟨o, h1, h2.1⟩ eo e (fun z => nomatch z) fin
  | @dT a kvs ea =>
    cases (show u = Value.ref a from r1)
    obtain ⟨_, _, zs, _, o, es, ep, h1, h2, _⟩ := (show ObjOk X.prog X.w H s.heap a (.dT kvs) from I.hok a _ ea)
    exact PySem.W.kia_tup PySem.W.kitx_dict I.kIn ⟨o, h1, h2.1⟩ eo e (fun z => nomatch z) fin
  | @ins a C dx fs ea cl ha hn htk hm =>
    cases (show u = Value.ref a from r1)
    obtain ⟨mA, O, _⟩ := ins_get I.hok ea
    obtain ⟨od, J, _⟩ := O.look
    exact PySem.W.kia_tup (PySem.W.kitx_own (cl.get _) cl.hd ha hn htk hm) I.kIn J eo e (fun z => nomatch z) fin

/-! ### sum -/
noncomputable def rSum (K : PySem.W.Frag) : List V → Hp → VK → Prop := fun xs H Q => ∃ (p : Addr) (ns : List Int), xs = [.ref p] ∧ SqL K H p (ns.map V.int) ∧ Q (.int ns.sum) H
theorem call_sum (hc : X.calm = true) : CallR X (.builtin "sum") (rSum X.K) := by
  intro pins s σ H xs us Q I r h
  obtain ⟨p, ns, rfl, hq, k⟩ := h
  obtain ⟨u, rfl, rx⟩ := vals1 r
  cases rx
  obtain ⟨its, rv, pl, hz⟩ := I.list hq
  have hi : IntsAre its ns := intsAre_of rv
  have en : numsOf its = ns := hi.numsOf
  obtain ⟨zs, hzs⟩ := hi.allInts.items
  have hl := pl.isList
  rw [hzs] at hl
  refine sum_intListG (I.ok.hd hc) hl fun h' tk t' kp => ⟨.int ns.sum, H, I.kept kp, ⟨t', ?_⟩, k⟩
  have e1 : numsOf (intItems zs).toList = ns := by rw [← hzs]; exact en
  rw [nums_intItems] at e1
  rw [preSum_eq, List.take_of_length_le (by simp), e1]

/-! ### for .. in enumerate(list) -/
end
end TT
namespace TT
open PySem PySem.Spec PyProof.Rows L2

/-! ### a list comprehension with one clause and no test, whose block captures nothing -/
noncomputable def compX (X : Cx) (scope : Scope) (C : Addr) (N : List Str) (s2 : Shared) (H2 : Hp) (fp : List Addr) : Cx :=
  { X with N := N, s₀ := s2, H₀ := H2, env := compEnvC scope [] C X.env, outer := X.stack, stack := X.stack, ex := fp, fn := fun _ => false, pn := [], xe := fun _ _ => False }
/-- J: what is walked; acc: the list that is made; n: the block's names -/
noncomputable def tComp (wi : TI) (g : TG) (te : TE) (n : Nat) : TE := fun σ H Q => wi σ H fun J H1 => ∀ acc, H1 acc = none → ∃ W : Nat → Nat → Hp → List V → Prop, (∃ m, W 0 m (upd H1 acc (.lst [])) []) ∧
  ∀ i m H2 ys, W i m H2 ys → H2 acc = some (.lst ys) → (J.stop i H2 ∧ Q (.ref acc) H2) ∨ (J.go i H2 ∧ ys.length < sizeLine ∧ ∀ x H3, J.yld i H2 x H3 → g x (List.replicate n none) H3 fun σ2 H4 => te σ2 H4 fun y H5 =>
    H5 acc = some (.lst ys) ∧ ∃ m', m' < m ∧ W (i + 1) m' (upd H5 acc (.lst (ys ++ [y]))) (ys ++ [y]))
section
variable {X : Cx}
theorem compOk {pins : List (Addr × Obj)} {σ : L2.St} {H : Hp} {s : Shared} {scope : Scope} {C : Addr} {N : List Str} {fp : List Addr} (I : Inv X pins σ H s) (hc : X.calm = true) (hkind : scope.kind = .function) (hfree : ∀ y ∈ scope.names, y.2 ≠ .free) (hcell : ∀ y ∈ scope.names, y.2 ≠ .cell)
    (hC : s.heap.objs.size ≤ C) (hf : ∀ b ∈ fp, FpOk X pins H b) (hlt : ∀ b ∈ fp, b < s.heap.objs.size) : (compX X scope C N s H fp).Ok where
  mod := I.ok.mod
  kind := hkind
  glob := I.ok.glob
  blt := I.ok.blt
  above := hC
  inj := fun x y c e _ => nomatch e
  has := fun x hx => by
    have none_of : ∀ (l : List (Str × NameKind)) (k : NameKind), (∀ y ∈ l, y.2 ≠ .free) → (∀ y ∈ l, y.2 ≠ .cell) →
        (l.map fun (n, k) => if (k == NameKind.free && X.env.scope.kind == .function && X.env.kindOf n == some .cell) then (n, NameKind.cell) else (n, k)).lookup x = some k → k ≠ .cell ∧ k ≠ .free := by
      intro l
      induction l with
      | nil => intro k _ _ e; simp at e
      | cons p l ih =>
        intro k h1 h2 e
        obtain ⟨n, kn⟩ := p
        have hn1 : kn ≠ .free := h1 (n, kn) List.mem_cons_self
        have hn2 : kn ≠ .cell := h2 (n, kn) List.mem_cons_self
        have eb : (kn == NameKind.free) = false := by simpa using hn1
        rw [List.map_cons, List.lookup_cons] at e
        simp only [eb, Bool.false_and, Bool.false_eq_true, if_false] at e
        cases hx : x == n with
        | true =>
          rw [hx] at e
          simp only at e
          cases e
          exact ⟨hn2, hn1⟩
        | false =>
          rw [hx] at e
          exact ih k (fun y hy => h1 y (List.mem_cons_of_mem _ hy)) (fun y hy => h2 y (List.mem_cons_of_mem _ hy)) e
    rcases hx with e | e
    · exact absurd rfl (none_of _ _ hfree hcell e).1
    · exact absurd rfl (none_of _ _ hfree hcell e).2
  cab := fun x c e _ => nomatch e
  hd := fun _ => I.ok.hd hc
  frames := I.ok.frames
  stk := .inl rfl
  exf := fun b hb => ⟨Nat.ne_of_lt (Nat.lt_of_lt_of_le (hlt b hb) hC), (fun x c e => (nomatch e))⟩
  bs := I.bs
  bsz := Nat.le_trans I.ok.bsz I.sz
  noex := fun b o e hb => by
    rcases (hf b hb).2.2.2.1 with z | z
    · exact I.ok.noex b o e z
    · exact absurd (Nat.lt_of_lt_of_le (Heap.lt_size e) (Nat.le_trans I.ok.bsz z)) (Nat.lt_irrefl _)
  exfs := fun b hb z => by
    rcases List.mem_cons.mp (I.stkSub b z) with e | z
    · exact (hf b hb).2.1 e
    · exact (hf b hb).2.2.1 z
  funs := I.stack
  frf := I.stkFree
end
end TT
namespace TT
open PySem PySem.Spec PyProof.Rows L2

/-! ### a def of the text with its promise, called -/
structure Ok1 (P : Program) (w : World) (K : PySem.W.Frag) (mg : Str → Option Value) (base : Heap) (k : Nat) (x : Str) (ps : List Str) (sp : Sp) : Prop where
  ex : ∃ (f : Addr) (fd : FuncData), FnOk P w K mg base CX0 k f fd ps sp ∧ mg x = some (.ref f) ∧ PySem.W.keepIn K (.ref f) = true ∧ Binds K fd ps []
theorem pe_fn {X : Cx} {k : Nat} {x : Str} {ps : List Str} {sp : Sp} {e : Expr} {es : List Expr} {t : TA} {p pos : Pos} (F : Ok1 X.prog X.w X.K X.mg X.base k x ps sp) (hr : Room k X.A) (hg : Gl X x) (ha : PA X (e :: es) t)
    (hdb : (x == ("__debug__" : Str)) = false := by decide) (he : starEach (e :: es) X.env = (false, eval e X.env) :: starEach es X.env := by rfl) (hpl : (backTo pos (starEach es X.env)).any (·.1) = false := by rfl) :
    PE X (.Call (.Name x p) (e :: es) [] pos) (tCall sp [] E0 t) := by
  obtain ⟨f, fd, F, hm, hk, hb⟩ := F.ex
  exact pe_call F hr hg hm hk hb .nil pass0 ha hdb he hpl

/-! ### heaps that grow by what is dropped again -/
section
variable {G H : Hp} {p : Addr} {o : HO}
theorem Ext.tmp (s : Same G H) (n : H p = none) : Ext G H G (upd H p o) := ⟨Same.refl G, s.trans (same_upd n), same_upd n, fun _ _ _ => rfl⟩
end

/-! ### slices -/
theorem cut_from (xs : List V) (k : Nat) : cutV xs (some (k : Int)) none = xs.drop k := by
  unfold cutV
  rw [HT.sIx_nat, HT.sIx_none]
  by_cases h : k ≤ xs.length
  · rw [Nat.min_eq_left h, List.take_of_length_le (by rw [List.length_drop]; exact Nat.le_refl _)]
  · rw [Nat.min_eq_right (by omega), Nat.sub_self, List.take_zero, List.drop_of_length_le (by omega)]
theorem cut_to (xs : List V) (k : Nat) : cutV xs none (some (k : Int)) = xs.take k := by
  unfold cutV
  rw [HT.sIx_nat, HT.sIx_none, List.drop_zero, Nat.sub_zero]
  by_cases h : k ≤ xs.length
  · rw [Nat.min_eq_left h]
  · rw [Nat.min_eq_right (by omega), List.take_of_length_le (Nat.le_refl _), List.take_of_length_le (by omega)]
theorem cut_last (xs : List V) : cutV xs (some (-1)) none = xs.drop (xs.length - 1) := by
  unfold cutV
  rw [HT.sIx_none, show HT.sIx xs.length 0 (some (-1)) = xs.length - 1 from by
    show (if (-1 : Int) < 0 then ((-1 : Int) + (xs.length : Int)).toNat else min (-1 : Int).toNat xs.length) = xs.length - 1
    rw [if_pos (by decide)]; omega]
  exact List.take_of_length_le (by rw [List.length_drop]; exact Nat.le_refl _)
theorem cut_front (xs : List V) : cutV xs none (some (-1)) = xs.take (xs.length - 1) := by
  unfold cutV
  rw [HT.sIx_none, show HT.sIx xs.length xs.length (some (-1)) = xs.length - 1 from by
    show (if (-1 : Int) < 0 then ((-1 : Int) + (xs.length : Int)).toNat else min (-1 : Int).toNat xs.length) = xs.length - 1
    rw [if_pos (by decide)]; omega, List.drop_zero, Nat.sub_zero]
theorem line_big : (1000000 : Nat) ≤ sizeLine := by decide
/-- t[1:] of a tree -/
theorem kids_cut (m : Str) (kv : List V) : cutV (.str m :: kv) (some 1) none = kv := cut_from (.str m :: kv) 1
theorem kids_not (m : Str) (kv : List V) : ¬ (HT.sIx (V.str m :: kv).length 0 (some 1) = 0 ∧ HT.sIx (V.str m :: kv).length (V.str m :: kv).length none = (V.str m :: kv).length) := by
  rintro ⟨h, _⟩
  have : HT.sIx (V.str m :: kv).length 0 (some ((1 : Nat) : Int)) = min 1 (V.str m :: kv).length := HT.sIx_nat _ _ _
  rw [show ((1 : Nat) : Int) = 1 from rfl] at this
  rw [this] at h
  simp at h
end TT
namespace TT
open PySem PySem.Spec PyProof.Rows L2
/-! ### an if both of whose ways go on: what holds behind it is said once -/
noncomputable def tIfM (c : TT) (t u : TS) : TS := fun De σ H => ∃ N : L2.St → Hp → Prop, (c σ H fun b H1 => if b = true then t { De with nx := N } σ H1 else u { De with nx := N } σ H1) ∧ ∀ σ' H', N σ' H' → De.nx σ' H'
theorem ps_ifM {X : Cx} {c : Expr} {a b : List Stmt} {tc : TT} {t u : TS} {pos : Pos} (hc : PT X c tc) (ha : PSs X a t) (hb : PSs X b u) : PS X (.If c a b pos) (tIfM tc t u) := by
  intro pins s σ H De I h
  obtain ⟨N, h, hN⟩ := h
  refine thn (ps_if hc ha hb pins s σ H { De with nx := N } I h) fun f s' q => ?_
  cases f with
  | next => obtain ⟨σ', H', I', q⟩ := q; exact ⟨σ', H', I', hN _ _ q⟩
  | brk => exact q
  | cont => exact q
  | ret v => exact q

/-! ### words -/
noncomputable def Word (x : Str) : Prop := 1 ≤ x.length ∧ x.length ≤ 28 ∧ ∀ c ∈ x.cps.toList, 97 ≤ c ∧ c ≤ 122
instance (x : Str) : Decidable (Word x) := by unfold Word; infer_instance
mutual
noncomputable def Tr.words : Tr → Prop
  | .node m ks => Word m ∧ wordsOf ks
noncomputable def wordsOf : List Tr → Prop
  | [] => True
  | t :: ts => t.words ∧ wordsOf ts
end
theorem wordsOf_iff : ∀ {ts : List Tr}, wordsOf ts ↔ ∀ t ∈ ts, t.words
  | [] => by simp [wordsOf]
  | t :: ts => by
    rw [wordsOf, wordsOf_iff (ts := ts)]
    constructor
    · rintro ⟨h1, h2⟩ u hu
      rcases List.mem_cons.mp hu with rfl | hu
      · exact h1
      · exact h2 u hu
    · intro h
      exact ⟨h t List.mem_cons_self, fun u hu => h u (List.mem_cons_of_mem _ hu)⟩
theorem word_sab : Word (Str.ofString "sab") := by decide +kernel
theorem word_tab : Word (Str.ofString "tab") := by decide +kernel
theorem word_sob : Word (Str.ofString "sob") := by decide +kernel
theorem word_sat : Word (Str.ofString "sat") := by decide +kernel
theorem four_words (n : Int) : ∃ m, atI [V.str (Str.ofString "sab"), V.str (Str.ofString "tab"), V.str (Str.ofString "sob"), V.str (Str.ofString "sat")] (n % 4) = some (V.str m) ∧ Word m := by
  have h1 : 0 ≤ n % 4 := Int.emod_nonneg _ (by decide)
  have h2 : n % 4 < 4 := Int.emod_lt_of_pos _ (by decide)
  generalize n % 4 = k at *
  obtain rfl | rfl | rfl | rfl : k = 0 ∨ k = 1 ∨ k = 2 ∨ k = 3 := by omega
  · exact ⟨_, rfl, word_sab⟩
  · exact ⟨_, rfl, word_tab⟩
  · exact ⟨_, rfl, word_sob⟩
  · exact ⟨_, rfl, word_sat⟩
theorem seven_ints (n : Int) : ∃ k : Nat, atI [V.int 0, V.int 0, V.int 1, V.int 1, V.int 2, V.int 3, V.int 4] (n % 7) = some (V.int (k : Int)) := by
  have h1 : 0 ≤ n % 7 := Int.emod_nonneg _ (by decide)
  have h2 : n % 7 < 7 := Int.emod_lt_of_pos _ (by decide)
  generalize n % 7 = k at *
  obtain rfl | rfl | rfl | rfl | rfl | rfl | rfl : k = 0 ∨ k = 1 ∨ k = 2 ∨ k = 3 ∨ k = 4 ∨ k = 5 ∨ k = 6 := by omega
  · exact ⟨0, rfl⟩
  · exact ⟨0, rfl⟩
  · exact ⟨1, rfl⟩
  · exact ⟨1, rfl⟩
  · exact ⟨2, rfl⟩
  · exact ⟨3, rfl⟩
  · exact ⟨4, rfl⟩
theorem one_sign (n : Int) : ∃ k : Int, atI [V.int 1, V.int (-1)] (n % 2) = some (V.int k) ∧ (k = 1 ∨ k = -1) := by
  have h1 : 0 ≤ n % 2 := Int.emod_nonneg _ (by decide)
  have h2 : n % 2 < 2 := Int.emod_lt_of_pos _ (by decide)
  generalize n % 2 = k at *
  obtain rfl | rfl : k = 0 ∨ k = 1 := by omega
  · exact ⟨1, rfl, .inl rfl⟩
  · exact ⟨-1, rfl, .inr rfl⟩
theorem alphabet_all : ∀ k : _root_.Fin 26, atI (Str.ofString "abcdefghijklmnopqrstuvwxyz").cps.toList ((k.val : Nat) : Int) = some (97 + k.val) := by decide +kernel
theorem alphabet_at (n : Int) : ∃ c, atI (Str.ofString "abcdefghijklmnopqrstuvwxyz").cps.toList (n % 26) = some c ∧ 97 ≤ c ∧ c ≤ 122 := by
  have h1 : 0 ≤ n % 26 := Int.emod_nonneg _ (by decide)
  have h2 : n % 26 < 26 := Int.emod_lt_of_pos _ (by decide)
  have := alphabet_all ⟨(n % 26).toNat, by omega⟩
  simp only [Int.toNat_of_nonneg h1] at this
  exact ⟨_, this, by omega, by omega⟩
theorem ints_ix {ns : List Int} {i : Nat} (h : i < ns.length) : atI (ns.map V.int) (i : Int) = some (V.int ns[i]) := atI_nat (by rw [List.getElem?_map, List.getElem?_eq_getElem h]; rfl)
theorem ints_ixI {ns : List Int} {i : Int} (h0 : 0 ≤ i) (h : i < ns.length) : ∃ n, atI (ns.map V.int) i = some (V.int n) := by
  have := ints_ix (ns := ns) (i := i.toNat) (by omega)
  rw [Int.toNat_of_nonneg h0] at this
  exact ⟨_, this⟩
end TT
namespace TT
open PySem PySem.Spec PyProof.Rows L2
/-! ### lists of pairs -/
theorem paired_mono {α β : Type} {R S : α → β → Prop} (f : ∀ a b, R a b → S a b) : ∀ {xs : List α} {ys : List β}, Paired R xs ys → Paired S xs ys
  | _, _, .nil => .nil
  | _, _, .cons r t => .cons (f _ _ r) (paired_mono f t)
theorem paired_app {α β : Type} {R : α → β → Prop} : ∀ {xs xs' : List α} {ys ys' : List β}, Paired R xs ys → Paired R xs' ys' → Paired R (xs ++ xs') (ys ++ ys')
  | _, _, _, _, .nil, s => s
  | _, _, _, _, .cons r t, s => .cons r (paired_app t s)
theorem paired_snoc {α β : Type} {R : α → β → Prop} {y : α} : ∀ {xs : List α} {zs : List β}, Paired R (xs ++ [y]) zs → ∃ ys z, zs = ys ++ [z] ∧ Paired R xs ys ∧ R y z
  | [], _, .cons r .nil => ⟨[], _, rfl, .nil, r⟩
  | x :: xs, _, .cons r t => by
    obtain ⟨ys, z, rfl, t', q⟩ := paired_snoc t
    exact ⟨_ :: ys, z, rfl, .cons r t', q⟩
theorem last_of {α : Type} : ∀ (xs : List α), xs.isEmpty = false → ∃ ys y, xs = ys ++ [y]
  | [], h => by simp at h
  | x :: xs, _ => ⟨(x :: xs).dropLast, (x :: xs).getLast (by simp), (List.dropLast_concat_getLast (by simp)).symm⟩
theorem last_at {α : Type} (ys : List α) (y : α) : (ys ++ [y])[(ys ++ [y]).length - 1]? = some y := by simp
/-- an item at a place, of a list or a tuple -/
theorem ixAny {K : PySem.W.Frag} {H : Hp} {a : Addr} {vs : List V} {i : Int} {v : V} {Q : VK} (h : SqL K H a vs ∨ SqT K H a vs) (e : atI vs i = some v) (q : Q v H) : rIx K (.ref a) (.int i) H Q := by
  rcases h with h | h
  · exact .inl ⟨a, vs, i, v, rfl, rfl, h, e, q⟩
  · exact .inr (.inl ⟨a, vs, i, v, rfl, rfl, h, e, q⟩)

/-! ### what isinstance says of the built-in kinds -/
section
variable (K : PySem.W.Frag)
open PySem.W
theorem kit2_list : kitAny K (.type "list") [.type "list", .type "tuple"] = some true := by rfl
theorem kit2_tuple : kitAny K (.type "tuple") [.type "list", .type "tuple"] = some true := by rfl
theorem kit2_int : kitAny K (.type "int") [.type "list", .type "tuple"] = some false := by rfl
theorem kit2_str : kitAny K (.type "str") [.type "list", .type "tuple"] = some false := by rfl
theorem kit2_bool : kitAny K (.type "bool") [.type "list", .type "tuple"] = some false := by rfl
theorem kit2_none : kitAny K (.type "NoneType") [.type "list", .type "tuple"] = some false := by rfl
theorem kit_list_list : kitOne K (.type "list") (.type "list") = some true := by rfl
theorem kit_list_tuple : kitOne K (.type "list") (.type "tuple") = some false := by rfl
theorem kit_tuple_list : kitOne K (.type "tuple") (.type "list") = some false := by rfl
theorem kit_tuple_tuple : kitOne K (.type "tuple") (.type "tuple") = some true := by rfl
theorem kit_str_str : kitOne K (.type "str") (.type "str") = some true := by rfl
theorem kit_int_str : kitOne K (.type "int") (.type "str") = some false := by rfl
theorem kit_bool_str : kitOne K (.type "bool") (.type "str") = some false := by rfl
theorem kit_none_str : kitOne K (.type "NoneType") (.type "str") = some false := by rfl
theorem kit_bool_bool : kitOne K (.type "bool") (.type "bool") = some true := by rfl
theorem kit_int_bool : kitOne K (.type "int") (.type "bool") = some false := by rfl
theorem kit_none_bool : kitOne K (.type "NoneType") (.type "bool") = some false := by rfl
theorem kit_int_int : kitOne K (.type "int") (.type "int") = some true := by rfl
end

/-! ### pairs of things that bear one datum -/
noncomputable def PairRel (G : Hp) (v : V) (d : D) : Prop := ∃ (q : Addr) (v1 v2 : V), v = .ref q ∧ G q = some (.tup [v1, v2]) ∧ Rep G v1 d ∧ Rep G v2 d
theorem PairRel.mono {G G' : Hp} (e : Same G G') {v : V} {d : D} (h : PairRel G v d) : PairRel G' v d := by
  obtain ⟨q, v1, v2, rfl, hq, r1, r2⟩ := h
  exact ⟨q, v1, v2, rfl, e _ _ hq, r1.mono e, r2.mono e⟩
/-- a path and the trees at it, as a pair -/
noncomputable def JobRel (G : Hp) (v : V) (j : Job) : Prop := ∃ (q : Addr) (v1 v2 : V), v = .ref q ∧ G q = some (.tup [v1, v2]) ∧ Rep G v1 (pathD j.1) ∧ Rep G v2 (rowD j.2)
theorem JobRel.mono {G G' : Hp} (e : Same G G') {v : V} {j : Job} (h : JobRel G v j) : JobRel G' v j := by
  obtain ⟨q, v1, v2, rfl, hq, r1, r2⟩ := h
  exact ⟨q, v1, v2, rfl, e _ _ hq, r1.mono e, r2.mono e⟩
noncomputable def PathRel (G : Hp) (v : V) (p : List Int) : Prop := Rep G v (pathD p)
theorem PathRel.mono {G G' : Hp} (e : Same G G') {v : V} {p : List Int} (h : PathRel G v p) : PathRel G' v p := Rep.mono e h
theorem paths_reps {G : Hp} : ∀ {vs : List V} {ps : List (List Int)}, Paired (PathRel G) vs ps → Reps G vs (ps.map pathD)
  | _, _, .nil => .nil
  | _, _, .cons r t => .cons r (paths_reps t)
end TT
namespace TT
open PySem PySem.Spec PyProof.Rows L2
section
variable {G H G2 H2 : Hp} {a : Addr} {o : HO}
/-- a list of ours that is not frozen is changed -/
theorem Ext.mut (x : Ext G H G2 H2) (n : G2 a = none) (nh : H a = none) : Ext G H G2 (upd H2 a o) := ⟨x.g, same_mut x.gh n, same_mut x.h nh, x.new⟩
end
theorem rel_path {G H : Hp} (s : Same G H) {v : V} {p : List Int} (r : PathRel G v p) : ∃ a, v = .ref a ∧ H a = some (.lst (p.map V.int)) := by
  obtain ⟨a, rfl, h⟩ := Rep.path r
  exact ⟨a, rfl, s _ _ h⟩
theorem subs_at (p : List Int) : ∀ (ts : List Tr) (j i : Nat) (h : i < ts.length), (subs p j ts)[i]? = some (p ++ [((j + i : Nat) : Int)], ts[i].kids)
  | t :: ts, j, 0, _ => by simp [subs]
  | t :: ts, j, i + 1, h => by
    have := subs_at p ts (j + 1) i (by simpa using h)
    rw [subs, List.getElem?_cons_succ, this]
    have e : j + 1 + i = j + (i + 1) := by omega
    rw [e]
    simp
theorem take_one {α : Type} {l : List α} {i : Nat} {x : α} (h : l[i]? = some x) : l.take (i + 1) = l.take i ++ [x] := by
  obtain ⟨hi, e⟩ := List.getElem?_eq_some_iff.mp h
  rw [List.take_succ_eq_append_getElem hi, e]
end TT
namespace TT
open PySem PySem.Spec PyProof.Rows L2
end TT
namespace TT
open PySem
theorem bt_list : bootBuiltins "list" = some (.type "list") := by decide +kernel
theorem bt_tuple : bootBuiltins "tuple" = some (.type "tuple") := by decide +kernel
theorem bt_len : bootBuiltins "len" = some (.builtin "len") := by decide +kernel
theorem bt_min : bootBuiltins "min" = some (.builtin "min") := by decide +kernel
theorem bt_abs : bootBuiltins "abs" = some (.builtin "abs") := by decide +kernel
theorem bt_sum : bootBuiltins "sum" = some (.builtin "sum") := by decide +kernel
theorem bt_sorted : bootBuiltins "sorted" = some (.builtin "sorted") := by decide +kernel
theorem bt_isinstance : bootBuiltins "isinstance" = some (.builtin "isinstance") := by decide +kernel
theorem bt_str : bootBuiltins "str" = some (.type "str") := by decide +kernel
theorem bt_int : bootBuiltins "int" = some (.type "int") := by decide +kernel
theorem bt_bool : bootBuiltins "bool" = some (.type "bool") := by decide +kernel
end TT
namespace TT
open PySem PySem.Spec PyProof.Rows L2
/-- a built-in type as a value -/
theorem pe_ty {X : Cx} {x : Str} {n : String} {pos : Pos} (hg : Gl X x) (hm : X.mg x = none) (hv : bootBuiltins x = some (.type n)) (hn : x ≠ "__name__" := by decide) (hd : (x == ("__debug__" : Str)) = false := by decide) : PE X (.Name x pos) (tC (.ty n)) :=
  pe_bltn hg hm hv (v := .ty n) rfl hn hd
end TT
namespace TT
open PySem PySem.Spec PyProof.Rows L2

/-! ### an exception on its way: how it lies -/
/-- the record at x, of class cls, with its trace's record: both new since h0, neither tracked -/
structure Fly (h h0 : Heap) (H' : Hp) (x : Addr) (cls : Value) : Prop where
  n0 : h0.get? x = none
  nH : H' x = none
  ex : ∃ (oe : Obj) (vs : Array Value) (T : Addr) (oT : Obj) (ts : Array Value) (a0 : Value), h0.get? T = none ∧ H' T = none ∧ h.get? x = some oe ∧ (oe.cls = cls ∧ vs[0]? = some a0) ∧ oe.data = .fields vs ∧ vs[1]? = some (.ref T) ∧ T ≠ x ∧ h.get? T = some oT ∧ oT.data = .fields ts ∧ ts[3]? = some .none
/-- an exception that has left the frames above outer -/
noncomputable def CXr (P : Program) (w : World) : CXT := fun outer H s E e s' => ∃ (x : Addr) (cls : Value) (H' : Hp), e = .ref x ∧ s'.os = s.os ∧ AllBare s'.gens ∧ Un (frs outer) [] H H' s.heap s'.heap ∧ HOk P w H' s'.heap ∧ Fly s'.heap s.heap H' x cls ∧ E cls none H'

theorem obj_there {P : Program} {w : World} {H : Hp} {h : Heap} {a : Addr} {o : HO} (x : ObjOk P w H h a o) : ∃ ob, h.get? a = some ob := by
  cases o with
  | lst xs => obtain ⟨_, _, _, _, e⟩ := x; exact ⟨_, e⟩
  | tup xs => obtain ⟨_, _, _, o, e, _⟩ := x; exact ⟨_, e⟩
  | dK kvs => obtain ⟨_, _, _, _, o, _, _, e, _⟩ := x; exact ⟨_, e⟩
  | dT kvs => obtain ⟨_, _, _, _, o, _, _, e, _⟩ := x; exact ⟨_, e⟩
  | set S n => obtain ⟨o, _, _, _, e, _⟩ := x; exact ⟨_, e⟩
  | ins C dx fs => obtain ⟨_, _, _, e, _⟩ := x; exact ⟨_, e⟩
  | own y => exact x
  | xd fs => obtain ⟨_, ⟨_, _, _, e, _⟩, _⟩ := x; exact ⟨_, e⟩
  | rng lo hi => obtain ⟨_, _, _, e⟩ := x; exact ⟨_, e⟩
  | frz ob u => obtain ⟨e, _⟩ := x; exact ⟨_, e⟩
  | tbl ps => exact ⟨_, x⟩
  | met f y => exact ⟨_, x⟩
  | ext φ => exact x.2.1

section
variable {X : Cx} {pins : List (Addr × Obj)} {σ : L2.St} {H : Hp} {s : Shared}
/-- a frame that runs is no record -/
theorem frame_rec {base h : Heap} {l : List Env} {b : Addr} {o : Obj} {vs : Array Value} (F : h.FunFrames base l) (hb : b ∈ frs l) (e : h.get? b = some o) (d : o.data = .fields vs) : False := by
  obtain ⟨_, o', e', n⟩ := F.mem hb
  rw [e] at e'
  cases e'
  exact n vs d
/-- behind an exception: only the record, its trace and the frames of l may have changed -/
theorem hok_behind {P : Program} {w : World} {H' : Hp} {h h' : Heap} {l : List Addr} (ok : HOk P w H' h) (n : ∀ b ∈ l, H' b = none) (k : (PySem.W.hideAll h l).StaysIn h') : HOk P w H' h' := fun b u e =>
  (ok b u e).stay (fun c v hc q => k c v (PySem.W.hideAll_get l q fun hm => by
    have z := n c hm
    rcases hc with rfl | hc
    · rw [z] at e; cases e
    · rw [z] at hc; cases hc)) (fun _ q => q) fun _ _ q => q
end
end TT
namespace TT
open PySem PySem.Spec PyProof.Rows L2

/-- a context that is a def's own frame -/
structure Own (X : Cx) : Prop where
  st : X.stack = X.env :: X.outer
  fr : X.env.frame = some X.env.locals
  ex : X.ex = []

section
variable {X : Cx} {pins : List (Addr × Obj)} {σ : L2.St} {H : Hp} {s : Shared} {E E' : XK}
theorem mem_frs {l : List Env} : ∀ env ∈ l, ∀ b, env.frame = some b → b ∈ frs l := fun env he b hb => List.mem_filterMap.mpr ⟨env, he, hb⟩
theorem Own.free (O : Own X) (I : Inv X pins σ H s) {b : Addr} (hb : b ∈ frs (X.env :: X.outer)) : H b = none := I.stkFree b (by rw [O.st]; exact hb)
theorem Own.fs (O : Own X) {b : Addr} (hb : b ∈ frs (X.env :: X.outer)) : b = X.env.locals ∨ b ∈ X.fs := by
  unfold frs at hb
  rw [List.filterMap_cons, O.fr] at hb
  exact List.mem_cons.mp hb
theorem Own.old (O : Own X) (I : Inv X pins σ H s) {b : Addr} {o : Obj} (e : X.s₀.heap.get? b = some o) : ∃ o', s.heap.get? b = some o' := I.base.there b o e (by rw [O.ex]; simp)
/-- the end of both: the record lies at x, its trace at T'; all else of h but the frames is kept -/
theorem left_at (O : Own X) (J : Inv X pins σ H s) {h' : Heap} {l : List Addr} {x : Addr} {cls a0 : Value} (nH : ∀ b ∈ l, H b = none) (n0 : ∀ b ∈ l, X.s₀.heap.get? b = none ∨ b ∈ X.fs) (nx0 : X.s₀.heap.get? x = none) (nxH : H x = none)
    (fl : Heap.FlyingW (PySem.W.hideAll s.heap l) X.outer x cls a0 h') (up : s.heap.UpToSlots h') (q : E' cls none H) :
    CXr X.prog X.w X.outer X.H₀ X.s₀ E' (.ref x) { s with heap := h' } := by
  obtain ⟨st, nb, ff, oe, vs, T, oT, ts, hx, hc, hd, h1, nT, hTx, hT, hdT, h3⟩ := fl
  have inl : ∀ b o, s.heap.get? b = some o → (PySem.W.hideAll s.heap l).get? b = none → b ∈ l := fun b o e n => by
    by_cases hm : b ∈ l
    · exact hm
    · rw [PySem.W.hideAll_get l e hm] at n
      cases n
  have nTH : H T = none := by
    cases e : H T with
    | none => rfl
    | some o =>
      obtain ⟨ob, eb⟩ := obj_there (J.hok T o e)
      have := nH T (inl T ob eb nT)
      rw [e] at this
      cases this
  have nT0 : X.s₀.heap.get? T = none := by
    cases e : X.s₀.heap.get? T with
    | none => rfl
    | some o =>
      obtain ⟨o', eo⟩ := O.old J e
      rcases n0 T (inl T o' eo nT) with z | z
      · rw [e] at z; cases z
      · exact (frame_rec ff z hT hdT).elim
  have keep : ∀ b o, X.s₀.heap.get? b = some o → b ∉ X.fs → s.heap.get? b = some o → h'.get? b = some o := fun b o e nf es => by
    refine st b o (PySem.W.hideAll_get l es fun hm => ?_)
    rcases n0 b hm with z | z
    · rw [e] at z; cases z
    · exact nf z
  have noex : ∀ b : Addr, b ∉ X.ex := fun b => by rw [O.ex]; simp
  refine ⟨x, cls, H, rfl, J.os, J.bare, ⟨fun b o e n nf _ => ?_, fun b o e n hf _ => ?_, fun b o e n _ => J.base.free b o e n (noex b), fun b o e _ => ?_, J.base.tups, J.base.frzs, J.base.tbls⟩, hok_behind J.hok nH st, ⟨nx0, nxH, oe, vs, T, oT, ts, a0, nT0, nTH, hx, hc, hd, h1, hTx, hT, hdT, h3⟩, q⟩
  · exact keep b o e nf (J.base.keep b o e n nf (noex b))
  · obtain ⟨sl, e1⟩ := J.base.slot b o e n hf (noex b)
    have nr : ∀ vs, o.data ≠ .fields vs := fun vs d => frame_rec J.ok.funs hf e d
    obtain ⟨sl', e2⟩ := up b _ e1 nr
    exact ⟨sl', e2⟩
  · obtain ⟨o', e1⟩ := J.base.there b o e (noex b)
    by_cases hm : b ∈ l
    · rcases n0 b hm with z | z
      · rw [e] at z; cases z
      · obtain ⟨_, o2, e2, _⟩ := ff.mem z
        exact ⟨o2, e2⟩
    · exact ⟨o', st b o' (PySem.W.hideAll_get l e1 hm)⟩
/-- an exception of a callee leaves this frame too -/
theorem leave_on (O : Own X) {e : Value} {s' : Shared} {E2 : Value → Shared → Prop} (I : Inv X pins σ H s) (h : CXr X.prog X.w X.stack H s E e s') (hE : ∀ cls H', E cls none H' → E' cls none H') :
    wpAny (model X.prog X.w) X.A (leaving X.env e) (fun _ s'' => CXr X.prog X.w X.outer X.H₀ X.s₀ E' e s'') E2 s' := by
  obtain ⟨x, cls, H', rfl, os, bare, un, hok, ⟨n0, nH, oe, vs, T, oT, ts, a0, nT0, nTH, hx, hc, hd, h1, hTx, hT, hdT, h3⟩, q⟩ := h
  have J : Inv X pins σ H' s' := I.call' (ch := []) os un hok bare (fun _ z => nomatch z)
  have ff : s'.heap.FunFrames X.base (X.env :: X.outer) := O.st ▸ J.stack
  have hfr : X.A.frames = some (X.env :: X.outer) := O.st ▸ J.ok.frames
  have new0 : ∀ b, s.heap.get? b = none → X.s₀.heap.get? b = none := fun b z => by
    cases e : X.s₀.heap.get? b with
    | none => rfl
    | some o =>
      obtain ⟨o', eo⟩ := O.old I e
      rw [z] at eo; cases eo
  refine wpAny_leaves_onW (base := PySem.W.hideAll s'.heap (x :: T :: frs (X.env :: X.outer))) (cls := cls) (a0 := a0) hfr O.fr
    ⟨fun b o e => PySem.W.of_hideAll _ e, PySem.W.hideAll_none _ List.mem_cons_self, PySem.W.funFrames_hide ff fun env he b hb => List.mem_cons_of_mem _ (List.mem_cons_of_mem _ (mem_frs env he b hb)),
      oe, vs, T, oT, ts, hx, hc, hd, h1, PySem.W.hideAll_none _ (List.mem_cons_of_mem _ List.mem_cons_self), hTx, hT, hdT, h3⟩ fun h' fl up => ?_
  refine left_at O J (l := x :: T :: frs (X.env :: X.outer)) (fun b hb => ?_) (fun b hb => ?_) (new0 x n0) nH fl up (hE _ _ q)
  · rcases List.mem_cons.mp hb with rfl | hb
    · exact nH
    · rcases List.mem_cons.mp hb with rfl | hb
      · exact nTH
      · exact O.free J hb
  · rcases List.mem_cons.mp hb with rfl | hb
    · exact .inl (new0 _ n0)
    · rcases List.mem_cons.mp hb with rfl | hb
      · exact .inl (new0 _ nT0)
      · rcases O.fs hb with rfl | hb
        · exact .inl (Heap.get?_none_of_le J.ok.above)
        · exact .inr hb
/-- an exception made here leaves this frame -/
theorem leave_made (O : Own X) {x : Addr} {cls : Value} {args : List Value} {h1 : Heap} {E2 : Value → Shared → Prop} (I : Inv X pins σ H s) (m : Heap.MadeExcOf s.heap h1 x cls args) (q : E' cls none H) :
    wpAny (model X.prog X.w) X.A (leaving X.env (.ref x)) (fun _ s'' => CXr X.prog X.w X.outer X.H₀ X.s₀ E' (.ref x) s'') E2 { s with heap := h1 } := by
  have ff : s.heap.FunFrames X.base (X.env :: X.outer) := O.st ▸ I.stack
  have hfr : X.A.frames = some (X.env :: X.outer) := O.st ▸ I.ok.frames
  refine wpAny_leaves_madeW (base := PySem.W.hideAll s.heap (frs (X.env :: X.outer))) hfr O.fr (fun b o e => PySem.W.of_hideAll _ e) (PySem.W.funFrames_hide ff mem_frs) m fun h' t fl _ _ up => ?_
  have nx : H x = none := by
    cases e : H x with
    | none => rfl
    | some o =>
      obtain ⟨ob, eb⟩ := obj_there (I.hok x o e)
      rw [m.new] at eb; cases eb
  have nx0 : X.s₀.heap.get? x = none := by
    cases e : X.s₀.heap.get? x with
    | none => rfl
    | some o =>
      obtain ⟨o', eo⟩ := O.old I e
      rw [m.new] at eo; cases eo
  refine left_at O I (l := frs (X.env :: X.outer)) (fun b hb => O.free I hb) (fun b hb => ?_) nx0 nx fl ((Heap.UpToSlots.of_keeps m.keeps).trans up) q
  rcases O.fs hb with rfl | hb
  · exact .inl (Heap.get?_none_of_le I.ok.above)
  · exact .inr hb
end

/-! ### the class of an exception -/
theorem exc_obj {K : PySem.W.Frag} {h : Heap} {C : Addr} {bmB : List Value} {newId : String} (X : K.In h) (q : PySem.W.excIn K C bmB newId = true) :
    ∃ bm ns nm qn bs hd sn sub ab col dd k0 k1 k2 k3 k5 mN, h.get? C = some (excClassObj nm qn C ns bs bm hd sn sub ab col dd k0 k1 k2 k3 k5 newId) ∧ h.Ns ns mN ∧ mN "__init__" = none ∧ OwnTail h bmB bm := by
  unfold PySem.W.excIn at q
  split at q
  · rename_i dd cd sl ho
    split at q
    · rename_i C' bm k0 k1 k2 k3 n k5 hm hs
      simp only [Bool.and_eq_true, beq_iff_eq, Bool.not_eq_true'] at q
      obtain ⟨⟨⟨⟨⟨rfl, rfl⟩, hdel⟩, ht⟩, hok⟩, hni⟩ := q
      obtain ⟨nm, bs, mro, ns, qn, hd, sn, sub, ab, col, del⟩ := cd
      dsimp only at hm hdel hok hni
      subst hm hdel
      have hsl : sl = #[k0, k1, k2, k3, some (.builtin n), k5] := by
        obtain ⟨l⟩ := sl
        simp only at hs
        rw [hs]
      subst hsl
      exact ⟨bm, ns, nm, qn, bs, hd, sn, sub, ab, col, dd, k0, k1, k2, k3, k5, _, X _ _ ho, .of_isNs (PySem.W.isNs_of_in X hok), PySem.W.nsMap_none_of_in X hok hni, PySem.W.tail_of_in X ht⟩
    · cases q
  · cases q

/-! ### raise -/
/-- the classes below ValueError -/
abbrev veMro : List Value := [.type "ValueError", .type "Exception", .type "BaseException", .type "object"]
noncomputable def ExcV (K : PySem.W.Frag) (C : Addr) : Prop := PySem.W.excIn K C veMro "ValueError.__new__" = true
/-- what an exception made here must come to -/
noncomputable def Raises (X : Cx) (E : XK) : Prop := ∀ (pins : List (Addr × Obj)) (σ : L2.St) (H : Hp) (s : Shared) (x : Addr) (cls : Value) (args : List Value) (h1 : Heap), Inv X pins σ H s → Heap.MadeExcOf s.heap h1 x cls args → E cls none H → X.xe (.ref x) { s with heap := h1 }
noncomputable def tRaise (C : Addr) (E : XK) (t : TA) : TS := fun _ σ H => t σ H fun vs H1 => vs.length ≤ sizeLine ∧ E (.ref C) none H1
theorem ps_raise {X : Cx} {E : XK} {C : Addr} {x : Str} {np cpos pos : Pos} {e : Expr} {es : List Expr} {t : TA} (hR : Raises X E) (hC : ExcV X.K C) (hc : X.calm = true) (hg : Gl X x) (hm : X.mg x = some (.ref C)) (ha : PA X (e :: es) t)
    (hdb : (x == ("__debug__" : Str)) = false := by decide) (he : starEach (e :: es) X.env = (false, eval e X.env) :: starEach es X.env := by rfl) (hpl : (backTo cpos (starEach es X.env)).any (·.1) = false := by rfl) :
    PS X (.Raise (some (.Call (.Name x np) (e :: es) [] cpos)) none pos) (tRaise C E t) := by
  intro pins s σ H D I h
  obtain ⟨bm, ns, nm, qn, bs, hd, sn, sub, ab, col, dd, k0, k1, k2, k3, k5, mN, hCo, hN, hni, hT⟩ := exc_obj I.ok.mod.kin hC
  have hbase : bm.contains (.type "BaseException") = true := hT.hasType PySem.F.excBase_ValueError.hasBase
  refine wpAny_Raise_call_subT (C := C) (nm := nm) (q := qn) (N := ns) (bs := bs) (bm := bm) (hdct := hd) (sn := sn) (sub := sub) (ab := ab) (col := col) (dd := dd) (k0 := k0) (k1 := k1) (k2 := k2) (k3 := k3) (k5 := k5) PySem.F.excBase_ValueError (mN := mN) hbase (I.ok.hd hc) (by rw [he]; show (false || (backTo cpos (starEach es X.env)).any (·.1)) = false; rw [hpl]; rfl) hni (ld_glob I hg hm ⟨rfl, ?_⟩ hdb)
  have hp := ha cpos pins s σ H _ I h
  rw [he] at hp ⊢
  refine Calls.evalArgs_plain (thn hp fun us s1 ⟨vs, H1, I1, r, hl, q⟩ => ⟨rfl, ?_, I1.bk _ _ hCo, hN.keeps I1.bk, hT.keeps I1.bk, fun h' x m => ?_⟩)
  · show us.length ≤ sizeLine
    rw [← r.length]; exact hl
  · exact hR pins σ H1 s1 x _ _ h' I1 m q
end TT
namespace TT
open PySem PySem.Spec PyProof.Rows L2

/-! ### defs that may raise -/
section
variable {P : Program} {w : World} {K : PySem.W.Frag} {mg : Str → Option Value} {base : Heap} {N : List Str} {qual : Str} {scope : Scope} {f : Addr} {cd : Value} {A : Around} {outer : List Env} {s : Shared} {H : Hp} {E : XK}
theorem own_cx {CX : CXT} : Own (cxOf CX P w K mg base N qual scope f cd A outer s H E) := ⟨rfl, rfl, rfl⟩
theorem raises_cx : Raises (cxOf (CXr P w) P w K mg base N qual scope f cd A outer s H E) E := fun _ _ _ _ _ _ _ _ I m q => leave_made own_cx I m q
theorem passes_cx : Passes (CXr P w) (cxOf (CXr P w) P w K mg base N qual scope f cd A outer s H E) E := fun _ _ _ _ _ _ I h => leave_on own_cx I h fun _ _ q => q
theorem turns_cx {CX : CXT} : PassesOwn (model P w) (cxOf CX P w K mg base N qual scope f cd A outer s H E).A (cxOf CX P w K mg base N qual scope f cd A outer s H E).env (cxOf CX P w K mg base N qual scope f cd A outer s H E).xe := PassesOwn.leaving
end
theorem passR0 {X : Cx} : Passes (CXr X.prog X.w) X E0 := fun _ _ _ _ _ _ _ h => by
  obtain ⟨_, _, _, _, _, _, _, _, _, q⟩ := h
  exact q.elim
section
variable {P : Program} {w : World} {K : PySem.W.Frag} {mg : Str → Option Value} {base : Heap}
theorem fun_okR {x qual : Str} {st : Stmt} {f : Addr} {fd : FuncData} {N ps : List Str} {k : Nat} {sp : Sp} (F : Fun K x qual st f fd) (S : FnScope N ps (defScope st)) (len : ∀ vs H Q E, sp vs H Q E → vs.length = ps.length)
    (hbody : ∀ (cdv : Value) (A : Around) (outer : List Env) (s : Shared) (H : Hp) (vs : List V) (Q : VK) (E : XK), Room k (A.deeper (envOfC qual (defScope st) s.heap.objs.size f cdv)) → sp vs H Q E →
      ∃ t, PSs (cxOf (CXr P w) P w K mg base N qual (defScope st) f cdv A outer s H E) (defBody st) t ∧ t { nx := fun _ H' => Q .non H', rt := Q } (start N vs) H) : FnOk P w K mg base (CXr P w) (k + 1) f fd ps sp := by
  obtain ⟨oc, od, kV, doc, pm, an, cdv, ct, osl, rfl, lk, hcd⟩ := F.ex
  exact fn_of lk hcd S len fun A outer s H vs Q E hr hsp => hbody cdv A outer s H vs Q E hr hsp
end
structure OkR (P : Program) (w : World) (K : PySem.W.Frag) (mg : Str → Option Value) (base : Heap) (k : Nat) (x : Str) (ps : List Str) (sp : Sp) : Prop where
  ex : ∃ (f : Addr) (fd : FuncData), FnOk P w K mg base (CXr P w) k f fd ps sp ∧ mg x = some (.ref f) ∧ PySem.W.keepIn K (.ref f) = true ∧ Binds K fd ps []
theorem pe_fnR {X : Cx} {k : Nat} {x : Str} {ps : List Str} {sp : Sp} {E : XK} {e : Expr} {es : List Expr} {t : TA} {p pos : Pos} (F : OkR X.prog X.w X.K X.mg X.base k x ps sp) (hx : Passes (CXr X.prog X.w) X E) (hr : Room k X.A) (hg : Gl X x) (ha : PA X (e :: es) t)
    (hdb : (x == ("__debug__" : Str)) = false := by decide) (he : starEach (e :: es) X.env = (false, eval e X.env) :: starEach es X.env := by rfl) (hpl : (backTo pos (starEach es X.env)).any (·.1) = false := by rfl) :
    PE X (.Call (.Name x p) (e :: es) [] pos) (tCall sp [] E t) := by
  obtain ⟨f, fd, F, hm, hk, hb⟩ := F.ex
  exact pe_call F hr hg hm hk hb .nil hx ha hdb he hpl

/-! ### an exception seen by this frame -/
section
variable {X : Cx} {pins : List (Addr × Obj)} {σ : L2.St} {H H' : Hp} {s s' : Shared}
/-- all but the record, its trace and the running frames' slots is kept -/
theorem inv_behind (I : Inv X pins σ H s) (J : Inv X pins σ H' s') {x T : Addr} {h' : Heap} {t' : Nat} (nx : s.heap.get? x = none) (nT : s.heap.get? T = none) (hx : H' x = none) (hT : H' T = none)
    (st : (PySem.W.hideAll s'.heap (x :: T :: frs X.stack)).StaysIn h') (up : s'.heap.UpToSlots h') : Inv X pins σ H' { s' with heap := h', toks := t' } := by
  have old : ∀ b o, s.heap.get? b = some o → b ≠ x ∧ b ≠ T := fun b o e => ⟨(fun z => by rw [z, nx] at e; cases e), (fun z => by rw [z, nT] at e; cases e)⟩
  have notin : ∀ b o, s.heap.get? b = some o → b ∉ frs X.stack → b ∉ x :: T :: frs X.stack := fun b o e n hm => by
    rcases List.mem_cons.mp hm with z | hm
    · exact (old b o e).1 z
    · rcases List.mem_cons.mp hm with z | hm
      · exact (old b o e).2 z
      · exact n hm
  have old0 : ∀ b o, X.s₀.heap.get? b = some o → b ∉ X.ex → ∃ o', s.heap.get? b = some o' := fun b o e hx => I.base.there b o e hx
  have cellK : ∀ c v, s'.heap.IsCell c v → h'.IsCell c v := fun c v ⟨o, ho, hd⟩ => by
    obtain ⟨sl, e⟩ := up c o ho fun vs q => by rw [hd] at q; cases q
    exact ⟨_, e, hd⟩
  refine ⟨J.ok, J.os, J.bare, ⟨fun b o e n hb hx => ?_, fun b o e n hb hx => ?_, J.base.free, fun b o e hx => ?_, J.base.tups, J.base.frzs, J.base.tbls⟩, ?_, fun y c e => ?_, J.free, J.freeC, fun p hp => ?_, hok_behind (l := x :: T :: frs X.stack) J.hok (fun b hb => ?_) st, J.len⟩
  · obtain ⟨o', e'⟩ := old0 b o e hx
    refine st b o (PySem.W.hideAll_get _ (J.base.keep b o e n hb hx) (notin b o' e' fun hm => ?_))
    rcases List.mem_cons.mp (I.stkSub b hm) with z | z
    · exact Nat.ne_of_lt (Nat.lt_of_lt_of_le (Heap.lt_size e) I.ok.above) z
    · exact hb z
  · obtain ⟨sl, e1⟩ := J.base.slot b o e n hb hx
    obtain ⟨sl', e2⟩ := up b _ e1 fun vs d => frame_rec J.ok.funs hb e d
    exact ⟨sl', e2⟩
  · obtain ⟨o1, e1⟩ := J.base.there b o e hx
    obtain ⟨o', e'⟩ := old0 b o e hx
    by_cases hm : b ∈ frs X.stack
    · obtain ⟨_, o2, e2, n2⟩ := J.stack.mem hm
      obtain ⟨sl, e3⟩ := up b o2 e2 n2
      exact ⟨_, e3⟩
    · exact ⟨o1, st b o1 (PySem.W.hideAll_get _ e1 (notin b o' e' hm))⟩
  · obtain ⟨m, hn, hl⟩ := J.loc
    refine ⟨m, up.ns hn, fun i y v e1 e2 e3 => ?_⟩
    obtain ⟨u, r, l⟩ := hl i y v e1 e2 e3
    refine ⟨u, r, ?_⟩
    rcases l with l | ⟨k, c, e, z⟩
    · exact .inl l
    · exact .inr ⟨k, c, e, cellK c _ z⟩
  · obtain ⟨v, z⟩ := J.cell y c e
    exact ⟨v, cellK c v z⟩
  · obtain ⟨e, n, ne, nf, d⟩ := J.pin p hp
    have e0 := (I.pin p hp).1
    refine ⟨st p.1 p.2 (PySem.W.hideAll_get _ e (notin p.1 p.2 e0 fun hm => ?_)), n, ne, nf, d⟩
    rcases List.mem_cons.mp (I.stkSub p.1 hm) with z | z
    · exact ne z
    · exact nf z
  · rcases List.mem_cons.mp hb with z | hb
    · rw [z]; exact hx
    · rcases List.mem_cons.mp hb with z | hb
      · rw [z]; exact hT
      · exact J.stkFree b hb
end

/-- the context of an except suite: the record of the caught one stands at x -/
noncomputable def inH (X : Cx) (x : Addr) (oe : Obj) : Cx := { X with A := X.A.mark (some (.ref x)), calm := false, pn := (x, oe) :: X.pn, xe := fun _ _ => False }
section
variable {X : Cx} {pins : List (Addr × Obj)} {σ : L2.St} {H : Hp} {s : Shared} {x : Addr} {oe : Obj}
theorem ok_inH (ok : X.Ok) : (inH X x oe).Ok := ⟨ok.mod, ok.kind, ok.glob, ok.blt, ok.above, ok.inj, ok.has, ok.cab, (fun z => (nomatch z)), ok.frames, ok.stk, ok.exf, ok.bs, ok.bsz, ok.noex, ok.exfs, ok.funs, ok.frf⟩
theorem inv_inH (I : Inv X pins σ H s) {vs : Array Value} (e : s.heap.get? x = some oe) (n : H x = none) (d : oe.data = .fields vs) : Inv (inH X x oe) pins σ H s :=
  ⟨ok_inH I.ok, I.os, I.bare, I.base, I.loc, I.cell, I.free, I.freeC, fun p hp => by
    rcases List.mem_cons.mp (show p ∈ (x, oe) :: (X.pn ++ pins) from hp) with rfl | hp
    · refine ⟨e, n, fun z => ?_, fun z => frame_rec I.funs z e d, fun v q => by rw [d] at q; cases q⟩
      obtain ⟨m, ⟨o, es, ep, ho, hd, _⟩, _⟩ := I.loc
      have z : x = X.env.locals := z
      rw [← z, e] at ho
      cases ho
      rw [d] at hd
      cases hd
    · exact I.pin p hp, I.hok, I.len⟩
theorem inv_outH (ok : X.Ok) (I : Inv (inH X x oe) pins σ H s) : Inv X pins σ H s :=
  ⟨ok, I.os, I.bare, I.base, I.loc, I.cell, I.free, I.freeC, fun p hp => I.pin p (List.mem_cons_of_mem _ hp), I.hok, I.len⟩
theorem sp_outH (ok : X.Ok) {D : Ends} {f : Flow} (h : SP (inH X x oe) pins D f s) : SP X pins D f s := by
  cases f with
  | next => obtain ⟨σ', H', I, q⟩ := h; exact ⟨σ', H', inv_outH ok I, q⟩
  | brk => obtain ⟨σ', H', I, q⟩ := h; exact ⟨σ', H', inv_outH ok I, q⟩
  | cont => obtain ⟨σ', H', I, q⟩ := h; exact ⟨σ', H', inv_outH ok I, q⟩
  | ret u => obtain ⟨v, σ', H', I, r, q⟩ := h; exact ⟨v, σ', H', inv_outH ok I, r, q⟩
end

/-! ### what stands under try: one call, its value kept or dropped -/
/-- the body's end: as ever, or an exception that this frame's names did not see -/
noncomputable def Caught (X : Cx) (pins : List (Addr × Obj)) (σ : L2.St) (E : Value → Hp → Prop) (e : Value) (s' : Shared) : Prop :=
  ∃ (x : Addr) (cls : Value) (H H' : Hp) (s : Shared), e = .ref x ∧ Inv X pins σ H s ∧ Inv X pins σ H' s' ∧ Fly s'.heap s.heap H' x cls ∧ E cls H'
noncomputable abbrev TB := Ends → (Value → Hp → Prop) → L2.St → Hp → Prop
noncomputable def PB (X : Cx) (sts : List Stmt) (t : TB) : Prop :=
  ∀ (pins : List (Addr × Obj)) (s : Shared) (σ : L2.St) (H : Hp) (D : Ends) (E : Value → Hp → Prop), Inv X pins σ H s → t D E σ H → wpAny (model X.prog X.w) X.A (execs sts X.env) (SP X pins D) (Caught X pins σ E) s
section
variable {X : Cx} {k : Nat} {sp : Sp} {ps : List Str} {f : Str} {e : Expr} {es : List Expr} {t : TA} {p pos : Pos}
/-- the call itself -/
theorem call_caught {pins : List (Addr × Obj)} {s : Shared} {σ : L2.St} {H : Hp} {Q : VK} {E : Value → Hp → Prop} (F : OkR X.prog X.w X.K X.mg X.base k f ps sp) (hr : Room k X.A) (hg : Gl X f) (ha : PA X.nox (e :: es) t) (I : Inv X pins σ H s)
    (h : t σ H fun vs H1 => sp vs H1 Q (fun cls _ H2 => E cls H2))
    (hdb : (f == ("__debug__" : Str)) = false := by decide) (he : starEach (e :: es) X.env = (false, eval e X.env) :: starEach es X.env := by rfl) (hpl : (backTo pos (starEach es X.env)).any (·.1) = false := by rfl) :
    wpAny (model X.prog X.w) X.A (eval (.Call (.Name f p) (e :: es) [] pos) X.env) (EP X pins σ Q) (Caught X pins σ E) s := by
  obtain ⟨fa, fd, F, hm, hk, hb⟩ := F.ex
  refine wpAny_Call_Name_kw (ld_glob I hg hm ?_ hdb)
  refine PySem.W.callWith_K (h₀ := X.base) I.ok.mod.kin hk (wpAny_mono (ha pos pins s σ H _ (I.wish _) h) (fun us s1 ⟨vs, H1, I1, r, q⟩ => ⟨I1.kIn, ?_⟩) fun _ _ z => False.elim z) he hpl
  have I1 := I1.unwish
  have hl : us.length = ps.length := by rw [← r.length]; exact F.len _ _ _ _ q
  refine wpAny_call (codeAny_mono (F.run X.A X.stack s1 H1 ⟨us, []⟩ (us ++ []) vs Q _ hr I1.env0 (hb s1 us I1.kIn (by rw [List.append_nil]; exact hl)) (by rw [List.append_nil]; exact r) q) fun r s' hq => ?_)
  cases r with
  | error e =>
    obtain ⟨x, cls, H', rfl, os, bare, un, hok, fl, q⟩ := hq
    exact ⟨x, cls, H1, H', s1, rfl, I1, I1.call' (ch := []) os un hok bare (fun _ z => nomatch z), fl, q⟩
  | ok fl =>
    cases fl with
    | ret u => exact I1.after hq
    | next => exact False.elim hq
    | brk => exact False.elim hq
    | cont => exact False.elim hq
/-- f(..) under try -/
noncomputable def tbDrop (sp : Sp) (t : TA) : TB := fun D E σ H => t σ H fun vs H1 => sp vs H1 (fun _ H2 => D.nx σ H2) (fun cls _ H2 => E cls H2)
theorem pb_drop {pos2 : Pos} (F : OkR X.prog X.w X.K X.mg X.base k f ps sp) (hr : Room k X.A) (hg : Gl X f) (ha : PA X.nox (e :: es) t)
    (hdb : (f == ("__debug__" : Str)) = false := by decide) (he : starEach (e :: es) X.env = (false, eval e X.env) :: starEach es X.env := by rfl) (hpl : (backTo pos (starEach es X.env)).any (·.1) = false := by rfl)
    (hs : swapsWith (.Call (.Name f p) (e :: es) [] pos) none pos2.line X.env = pure false := by rfl) : PB X [.Expr (.Call (.Name f p) (e :: es) [] pos) pos2] (tbDrop sp t) := by
  intro pins s σ H D E I h
  refine wpAny_execs_cons (wpAny_Expr_any (thn (call_caught F hr hg ha I h hdb he hpl) fun v s1 ⟨x, H1, I1, r1, q1⟩ => ?_) I.quiet hs)
  exact wpAny_execs_nil ⟨σ, H1, I1, q1⟩
end
end TT
namespace TT
open PySem PySem.Spec PyProof.Rows L2

/-! ### try .. except C -/
section
variable {X : Cx}
/-- the caught one, looked at: the class test and the suite -/
theorem look_and_land (O : Own X) {pins : List (Addr × Obj)} {σ : L2.St} {H : Value → Hp → Prop} {e : Value} {s : Shared} {E : Value → Shared → Prop} {hs : List ExceptHandler} {Q : Flow → Shared → Prop} (q : Caught X pins σ H e s)
    (go : ∀ (x : Addr) (cls : Value) (a0 : Value) (H' : Hp) (h' : Heap) (l : List Addr), e = .ref x → Inv X pins σ H' { s with heap := h' } → H' x = none → H cls H' → Heap.FlyingW (PySem.W.hideAll s.heap l) (X.env :: X.outer) x cls a0 h' →
      (∀ h2 t2, Heap.FlyingW (PySem.W.hideAll s.heap l) (X.env :: X.outer) x cls a0 h2 → h'.UpToSlots h2 → Inv X pins σ H' { s with heap := h2, toks := t2 }) →
      wpAny (model X.prog X.w) X.A (handleBy (.ref x) X.env hs) Q E { s with heap := h' }) :
    wpAny (model X.prog X.w) X.A (noteFrame e X.env) (fun _ s₂ => wpAny (model X.prog X.w) X.A (setFlight e none) (fun _ s₃ => wpAny (model X.prog X.w) X.A (handleBy e X.env hs) Q E s₃) E s₂) E s := by
  obtain ⟨x, cls, H1, H2, s0, rfl, I1, J, ⟨n0, nH, oe, vs, T, oT, ts, a0, nT0, nTH, hx, hc, hd, h1, hTx, hT, hdT, h3⟩, hq⟩ := q
  have ff : s.heap.FunFrames X.base (X.env :: X.outer) := O.st ▸ J.stack
  have hfr : X.A.frames = some (X.env :: X.outer) := O.st ▸ J.ok.frames
  refine wpAny_looks_onW (base := PySem.W.hideAll s.heap (x :: T :: frs (X.env :: X.outer))) (cls := cls) (a0 := a0) hfr O.fr
    ⟨fun b o e => PySem.W.of_hideAll _ e, PySem.W.hideAll_none _ List.mem_cons_self, PySem.W.funFrames_hide ff fun env he b hb => List.mem_cons_of_mem _ (List.mem_cons_of_mem _ (mem_frs env he b hb)),
      oe, vs, T, oT, ts, hx, hc, hd, h1, PySem.W.hideAll_none _ (List.mem_cons_of_mem _ List.mem_cons_self), hTx, hT, hdT, h3⟩ fun h1 held up1 => ?_
  refine wpAny_landsW held fun h2 fl2 up2 => ?_
  have beh : ∀ h' t', (PySem.W.hideAll s.heap (x :: T :: frs (X.env :: X.outer))).StaysIn h' → s.heap.UpToSlots h' → Inv X pins σ H2 { s with heap := h', toks := t' } := fun h' t' st up =>
    inv_behind I1 J n0 nT0 nH nTH (by rw [O.st]; exact st) up
  exact go x cls a0 H2 h2 _ rfl (beh h2 _ fl2.1 (up1.trans up2)) nH hq fl2 fun h3 t3 fl3 up3 => beh h3 t3 fl3.1 ((up1.trans up2).trans up3)

variable {body suite : List Stmt} {b₀ : Stmt} {c : Str} {np hpos pos : Pos} {C : Addr} {tb : TB}
/-- the caught class: C or one of its heirs -/
noncomputable def tTry (K : PySem.W.Frag) (C : Addr) (tb : TB) (th : TS) : TS := fun D σ H => tb D (fun cls H' => PySem.W.exmOne K cls (.ref C) = some true ∧ th D σ H') σ H
theorem ps_try {th : TS} (O : Own X) (hb : PB X body tb) (hg : Gl X c) (hm : X.mg c = some (.ref C)) (hh : ∀ x oe, PSs (inH X x oe) (b₀ :: suite) th) (hdb : (c == ("__debug__" : Str)) = false := by decide) :
    PS X (.Try body [.ExceptHandler (some (.Name c np)) none (b₀ :: suite) hpos] [] [] pos) (tTry X.K C tb th) := by
  intro pins s σ H D I h
  refine wpAny_Try_except (wpAny_mono (hb pins s σ H D _ I h) (fun f s1 q => ?_) fun e s1 q => ?_)
  · cases f with
    | next => exact wpAny_execs_nil q
    | ret v => exact q
    | brk => exact q
    | cont => exact q
  · refine look_and_land O q fun x cls a0 H' h' l _ J nH ⟨hm1, hth⟩ fl beh => ?_
    obtain ⟨oe, ws, hoe, hoec, hoed, _⟩ := fl.first
    have JH : Inv (inH X x oe) pins σ H' { s1 with heap := h' } := inv_inH J hoe nH hoed
    have LT : PySem.W.Looks (model X.prog X.w) h' (typeOf (.ref x)) cls := hoec ▸ (PySem.W.Looks.ld hoe).andThen .now
    refine wpAny_handleBy_cons (codeAny_handlers_test (ld_glob (X := inH X x oe) JH hg hm ?_ hdb)) (by intro q; cases q)
    refine PySem.W.exm_one (h := h') J.kIn LT hm1 _ _ _ _ (fun _ _ e => e) ?_
    refine codeAny_handlers_suite (lands_againW fl fun h3 fl3 up3 => ?_)
    obtain ⟨oe3, ws3, hoe3, _, hoed3, _⟩ := fl3.first
    have J3 := inv_inH (x := x) (oe := oe3) (beh h3 s1.toks fl3 up3) hoe3 nH hoed3
    exact wpAny_mono (hh x oe3 pins _ σ H' D J3 hth) (fun f s2 q => sp_outH I.ok q) fun _ _ z => False.elim z
end

/-! ### try .. except C as e, the suite returns -/
section
variable {X : Cx} {pins : List (Addr × Obj)} {σ : L2.St} {H : Hp} {s : Shared}
variable {body suite : List Stmt} {b₀ : Stmt} {c n : Str} {np hpos pos : Pos} {C : Addr} {tb : TB}
end
end TT
namespace TT
open PySem PySem.Spec PySem.W PyProof.Rows Builtin Builtin.ObjectAttr Builtin.Getset_descriptor

/-! ### isinstance of an exception of ours -/
/-- what the text says of the class C of an exception -/
structure ExcK (K : PySem.W.Frag) (C : Addr) : Prop where
  ga : PySem.W.findIn K (.ref C) "__getattribute__" = some (some (.builtin "BaseException.__getattribute__"))
  gn : PySem.W.findIn K (.ref C) "__getattr__" = some none
  cl : PySem.W.findIn K (.ref C) "__class__" = some (some (.builtin "object.__class__"))
  m1 : PySem.W.mroIn K C (.type "object") = some true
  m2 : PySem.W.mroIn K C (.type "BaseException") = some true
  is : (PySem.W.clsIn K C).isSome = true
section
variable {prog : Program} {w : World} {A : Around} {E : Value → Shared → Prop} {K : PySem.W.Frag} {x C : Addr} {h : Heap} {g : Array GenState} {d : Drawn} {t : Nat} {os : OsState}
end
end TT
namespace TT
open PySem PySem.Spec PyProof.Rows L2

/-! ### range(a, b, -1) -/
/-- hi, hi - 1, .. (n of them) -/
noncomputable def Itd (hi : Int) (n : Nat) : It := ⟨fun i _ => i < n, fun i H x H' => H' = H ∧ x = .int (hi - i), fun i _ => n ≤ i⟩
theorem turn_down {P : Program} {w : World} {K : PySem.W.Frag} {tg : Expr} (it : Addr) (hi : Int) (n : Nat) : Turn P w K tg (Itd hi n) [it] it (fun i h => IsRangeIter h it (hi + (i : Nat) * (-1)) ((n : Int) - (i : Nat)) (-1)) where
  mem := by simp
  obj := fun i h st b hb => by
    have e : b = it := by simpa using hb
    subst e
    exact ⟨_, st, fun v z => (nomatch (show Data.fields _ = Data.cell v from z))⟩
  keep := fun i h h' st k => k it (by simp) _ st
  item := by
    intro X hP hw hK hc i pins s σ H E I hf st hg
    subst hP hw hK
    obtain ⟨f0, f1, f2, f3, f4, f5⟩ := hf it (by simp)
    refine (Walks.range (prog := X.prog) (w := X.w) (I.ok.hd hc) it hi (-1) n).item i s _ _ hg st fun v h' tk hv st' kk => ?_
    obtain ⟨t, rfl⟩ := hv
    have I1 : Inv X pins σ H { s with heap := h', toks := tk } := I.turned (fun b o hb e => kk b o (by simpa using hb) e) f0 f1 f3 f4 f5
    refine ⟨_, rfl, go_of (s := { s with heap := h', toks := tk }) (n := "range_iterator") st' rfl rfl (by decide) ⟨.int (hi - i), H, I1, ⟨t, ?_⟩, ⟨rfl, rfl⟩, st', fun b hb => (hf b hb).1⟩⟩
    have e : hi + (i : Nat) * (-1 : Int) = hi - i := by omega
    rw [e]
  done := by
    intro X hP hw hK hc i pins s σ H E I hf st hg
    subst hP hw hK
    obtain ⟨f0, f1, f2, f3, f4, f5⟩ := hf it (by simp)
    exact wpAny_pyNext_range_end (I.ok.hd hc) st (by have : n ≤ i := hg; omega) fun h' eb => ⟨rfl, I.turned (t' := s.toks) (fun b o hb e => eb b o hb e) f0 f1 f3 f4 f5⟩
  self := fun _ _ _ _ _ st h => wpAny_pyIter_rangeiter st h
section
variable {X : Cx} {tg : Expr}
noncomputable def iRngD (ta : TA) : TI := fun σ H R => ta σ H fun vs H1 => ∃ i j : Int, vs = [.int i, .int j, .int (-1)] ∧ (-(2 ^ 62) ≤ i ∧ i < 2 ^ 62 ∧ -(2 ^ 62) ≤ j ∧ j < 2 ^ 62) ∧ R (Itd i (i - j).toNat) H1
theorem pi_rangeD {a b c : Expr} {ta : TA} {p pos : Pos} (hg : Gl X "range") (hm : X.mg "range" = none) (ha : PA X [a, b, c] ta) (hs : starEach [a, b, c] X.env = (false, eval a X.env) :: starEach [b, c] X.env := by rfl) (hs2 : (backTo pos (starEach [b, c] X.env)).any (·.1) = false := by rfl) :
    PI X tg (.Call (.Name "range" p) [a, b, c] [] pos) (iRngD ta) := by
  intro pins s σ H R I h
  refine Call_ (ld_blt I hg hm boot_range (PyProof.Rows.callWith_type1 (thn (ha pos pins s σ H _ I h) fun us s1 ⟨vs, H1, I1, r1, q1⟩ => ?_) hs hs2))
  obtain ⟨i, j, e, ⟨q1, q2, q3, q4⟩, q⟩ := q1
  subst e
  cases r1 with
  | cons r rr => cases rr with
    | cons r' rr => cases rr with
      | cons r'' rr =>
        cases rr
        obtain ⟨t, rfl⟩ := r
        obtain ⟨t', rfl⟩ := r'
        obtain ⟨t'', rfl⟩ := r''
        refine call_range_3 (by decide) ?_ (.inl (PyProof.noPylong_small (by decide)))
        refine wpAny_pyIter_range (IsRange.new ..) (PySem.W.small_down q1 q2 q3 q4) ?_
        generalize hob : ({ cls := .type "range", data := .fields #[.int i t, .int j t', .int (-1) t''] } : Obj) = ob
        have J1 : Inv X pins σ H1 { s1 with heap := s1.heap.push ob, toks := s1.toks } := I1.kept fun b o e => Heap.get?_push_of_some _ e
        refine ⟨(s1.heap.push ob).objs.size, [(s1.heap.push ob).objs.size], _, _, H1, rfl, J1.kept (t' := s1.toks) fun b o e => Heap.get?_push_of_some _ e, turn_down _ i (i - j).toNat, ?_, fun b hb => ?_, q⟩
        · have e1 : i + ((0 : Nat) : Int) * (-1) = i := by simp
          have e2 : (((i - j).toNat : Nat) : Int) - ((0 : Nat) : Int) = Builtin.Range.rangeSize i j (-1) := by rw [PySem.W.rangeSize_downNat]; omega
          show IsRangeIter _ _ (i + ((0 : Nat) : Int) * (-1)) ((((i - j).toNat : Nat) : Int) - ((0 : Nat) : Int)) (-1)
          rw [e1, e2]
          exact Heap.get?_push_size _ rfl
        · have e : b = (s1.heap.push ob).objs.size := by simpa using hb
          subst e
          exact J1.fpOk (Nat.le_refl _) (J1.hok.fresh (Nat.le_refl _))
end
/-- the loop over it -/
theorem for_down {hi : Int} {n : Nat} {g : TG} {tb : TS} {De : Ends} {σ : L2.St} {H : Hp} (Pv : Nat → L2.St → Hp → Prop) (h0 : Pv 0 σ H)
    (step : ∀ i σ H, i < n → Pv i σ H → g (.int (hi - i)) σ H fun σ2 H2 => tb { De with nx := Pv (i + 1), ct := Pv (i + 1), bk := De.nx } σ2 H2) (last : ∀ σ H, Pv n σ H → De.nx σ H) :
    ∃ W : Nat → Nat → L2.St → Hp → Prop, (∃ m, W 0 m σ H) ∧ ∀ i m σ H, W i m σ H →
      ((Itd hi n).stop i H ∧ De.nx σ H) ∨ ((Itd hi n).go i H ∧ ∃ N : L2.St → Hp → Prop, (∀ σ' H', N σ' H' → ∃ m', m' < m ∧ W (i + 1) m' σ' H') ∧ ∀ x H', (Itd hi n).yld i H x H' → g x σ H' fun σ2 H2 => tb { De with nx := N, ct := N, bk := De.nx } σ2 H2) := by
  refine ⟨fun i m σ H => m = n - i ∧ i ≤ n ∧ Pv i σ H, ⟨n, by simp, Nat.zero_le _, h0⟩, ?_⟩
  rintro i m σ H ⟨rfl, hle, pv⟩
  by_cases hlt : i < n
  · refine .inr ⟨hlt, Pv (i + 1), fun σ' H' p' => ⟨n - (i + 1), by omega, rfl, hlt, p'⟩, ?_⟩
    rintro x H' ⟨rfl, rfl⟩
    exact step i σ _ hlt pv
  · obtain rfl : i = n := by omega
    exact .inl ⟨Nat.le_refl _, last σ H pv⟩

/-! ### reversed(list) -/
noncomputable def Itv (K : PySem.W.Frag) (a : Addr) (n : Nat) : It :=
  ⟨fun i H => i < n ∧ ∃ xs x, SqL K H a xs ∧ xs.length = n ∧ xs[n - 1 - i]? = some x, fun i H x H' => H' = H ∧ ∀ xs, SqL K H a xs → xs.length = n → xs[n - 1 - i]? = some x, fun i H => n = i⟩
theorem turn_rev {P : Program} {w : World} {K : PySem.W.Frag} {tg : Expr} (a it : Addr) (n : Nat) : Turn P w K tg (Itv K a n) [it] it (fun i h => i ≤ n ∧ h.IsRevIter it a ((n : Int) - 1 - (i : Nat))) where
  mem := by simp
  obj := fun i h st b hb => by
    have e : b = it := by simpa using hb
    subst e
    obtain ⟨_, o, e, c, d⟩ := st
    exact ⟨o, e, fun v z => by rw [d] at z; cases z⟩
  keep := fun i h h' st k => by
    obtain ⟨hi, o, e, c, d⟩ := st
    exact ⟨hi, o, k it (by simp) o e, c, d⟩
  item := by
    intro X hP hw hK hc i pins s σ H E I hf st hg
    subst hP hw hK
    obtain ⟨hin, xs, x, hq, hl, hx⟩ := hg
    obtain ⟨its, rv, p, hz⟩ := I.list hq
    obtain ⟨u, hu, ru⟩ := rv.get hx
    obtain ⟨f0, f1, f2, f3, f4, f5⟩ := hf it (by simp)
    obtain ⟨_, st⟩ := st
    have e1 : (n : Int) - 1 - (i : Nat) = ((n - 1 - i : Nat) : Int) := by omega
    rw [e1] at st
    refine wpAny_pyNext_rev_item st p.isList (x := u) (by simpa using hu) fun h' st' sb => ?_
    have I1 : Inv X pins σ H { s with heap := h' } := I.turned (t' := s.toks) (fun b o hb e => (sb.2 b hb).trans e) f0 f1 f3 f4 f5
    have e2 : ((n - 1 - i : Nat) : Int) - 1 = (n : Int) - 1 - ((i + 1 : Nat) : Int) := by omega
    rw [e2] at st'
    obtain ⟨o, e, c, d⟩ := id st'
    exact ⟨u, rfl, go_of (s := { s with heap := h' }) e c d (by decide) ⟨x, H, I1, ru, ⟨rfl, fun ys hy hyl => by rw [I.list_inj hy hq]; exact hx⟩, ⟨hin, st'⟩, fun b hb => (hf b hb).1⟩⟩
  done := by
    intro X hP hw hK hc i pins s σ H E I hf st hg
    subst hP hw hK
    obtain ⟨f0, f1, f2, f3, f4, f5⟩ := hf it (by simp)
    obtain ⟨_, st⟩ := st
    obtain rfl : n = i := hg
    have e1 : (n : Int) - 1 - (n : Nat) = -1 := by omega
    rw [e1] at st
    exact wpAny_pyNext_rev_end (I.ok.hd hc) st fun h' eb => ⟨rfl, I.turned (t' := s.toks) (fun b o hb e => eb b o hb e) f0 f1 f3 f4 f5⟩
  self := fun _ _ _ _ _ st h => wpAny_pyIter_revIter st.2 h
end TT
namespace TT
open PySem PySem.Spec PyProof.Rows L2
section
variable {X : Cx} {tg : Expr}
theorem bt_reversed : bootBuiltins "reversed" = some (.type "reversed") := by decide +kernel
noncomputable def iRev (K : PySem.W.Frag) (ta : TA) : TI := fun σ H R => ta σ H fun vs H1 => ∃ a xs, vs = [.ref a] ∧ SqL K H1 a xs ∧ R (Itv K a xs.length) H1
theorem pi_rev {e : Expr} {ta : TA} {p pos : Pos} (hg : Gl X "reversed") (hm : X.mg "reversed" = none) (ha : PA X [e] ta) (hs : starEach [e] X.env = [(false, eval e X.env)] := by rfl) : PI X tg (.Call (.Name "reversed" p) [e] [] pos) (iRev X.K ta) := by
  intro pins s σ H R I h
  refine Call_ (ld_blt I hg hm bt_reversed (PyProof.Rows.callWith_type1 (thn (ha pos pins s σ H _ I h) fun us s1 ⟨vs, H1, I1, r1, q1⟩ => ?_) hs rfl))
  obtain ⟨a, xs, e, hq, q⟩ := q1
  subst e
  cases r1 with
  | cons r rr =>
    cases rr
    cases r
    obtain ⟨its, rv, pl, hz⟩ := I1.list hq
    refine call_reversed_list pl.isList ?_
    have hl := rv.length
    have J : Inv X pins σ H1 { s1 with heap := s1.heap.push (revObj a ((its.toArray.size : Int) - 1)) } := I1.kept (t' := s1.toks) fun b o e => Heap.get?_push_of_some _ e
    have hit : (s1.heap.push (revObj a ((its.toArray.size : Int) - 1))).IsRevIter s1.heap.objs.size a ((xs.length : Int) - 1 - ((0 : Nat) : Int)) := ⟨_, Heap.get?_push_size _ rfl, rfl, by
      have e : (its.toArray.size : Int) - 1 = (xs.length : Int) - 1 - ((0 : Nat) : Int) := by simp only [List.size_toArray]; omega
      rw [e]
      rfl⟩
    refine wpAny_pyIter_revIter hit ?_
    refine ⟨s1.heap.objs.size, [s1.heap.objs.size], _, _, H1, rfl, J, turn_rev a _ xs.length, ⟨Nat.zero_le _, hit⟩, fun b hb => ?_, q⟩
    have e : b = s1.heap.objs.size := by simpa using hb
    subst e
    exact I1.fpOk (Nat.le_refl _) (I1.hok.fresh (Nat.le_refl _))
end
/-- the loop over it; the list stays -/
theorem for_rev {K : PySem.W.Frag} {a : Addr} {xs : List V} {g : TG} {tb : TS} {De : Ends} {σ : L2.St} {H : Hp} (Pv : Nat → L2.St → Hp → Prop) (h0 : Pv 0 σ H) (stays : ∀ i σ H, i ≤ xs.length → Pv i σ H → SqL K H a xs)
    (step : ∀ i x σ H, xs[xs.length - 1 - i]? = some x → i < xs.length → Pv i σ H → g x σ H fun σ2 H2 => tb { De with nx := Pv (i + 1), ct := Pv (i + 1), bk := De.nx } σ2 H2) (last : ∀ σ H, Pv xs.length σ H → De.nx σ H) :
    ∃ W : Nat → Nat → L2.St → Hp → Prop, (∃ m, W 0 m σ H) ∧ ∀ i m σ H, W i m σ H →
      ((Itv K a xs.length).stop i H ∧ De.nx σ H) ∨ ((Itv K a xs.length).go i H ∧ ∃ N : L2.St → Hp → Prop, (∀ σ' H', N σ' H' → ∃ m', m' < m ∧ W (i + 1) m' σ' H') ∧ ∀ x H', (Itv K a xs.length).yld i H x H' → g x σ H' fun σ2 H2 => tb { De with nx := N, ct := N, bk := De.nx } σ2 H2) := by
  refine ⟨fun i m σ H => m = xs.length - i ∧ i ≤ xs.length ∧ Pv i σ H, ⟨xs.length, by simp, Nat.zero_le _, h0⟩, ?_⟩
  rintro i m σ H ⟨rfl, hle, pv⟩
  have hq := stays i σ H hle pv
  by_cases hlt : i < xs.length
  · have hx : xs[xs.length - 1 - i]? = some (xs[xs.length - 1 - i]'(by omega)) := List.getElem?_eq_getElem (by omega)
    refine .inr ⟨⟨hlt, xs, _, hq, rfl, hx⟩, Pv (i + 1), fun σ' H' p' => ⟨xs.length - (i + 1), by omega, rfl, hlt, p'⟩, ?_⟩
    rintro x H' ⟨rfl, hxx⟩
    exact step i x σ _ (hxx xs hq rfl) hlt pv
  · obtain rfl : i = xs.length := by omega
    exact .inl ⟨rfl, last σ H pv⟩
end TT
namespace TT
open PySem PySem.Spec PyProof.Rows L2

/-! ### texts put together: only that one comes, no longer than n -/
noncomputable def Small (a : Int) : Prop := a.natAbs < 10 ^ 100
theorem small_log {a : Int} (h : Small a) : a.natAbs.log2 < 1920 := by
  by_cases h0 : a.natAbs = 0
  · rw [h0]; decide
  · exact (Nat.log2_lt h0).mpr (Nat.lt_trans h (by decide +kernel))
theorem small_text {a : Int} (h : Small a) : (Str.ofString (toString a)).length ≤ 101 := by
  have e := int_text_length_le10 (k := 100) (by decide) h
  rw [PySem.ofString_length]
  exact e
theorem text_le (ts : List Str) : (listText ts).length ≤ 2 + piled ts := by
  cases ts with
  | nil => decide
  | cons t r =>
    have h := textFrom_length_pos r 1 (("[" : Str) ++ (if (0 : Nat) > 0 then ", " else "" : String) ++ t) Nat.one_pos
    have e : ((("[" : Str) ++ (if (0 : Nat) > 0 then ", " else "" : String) ++ t)).length = 1 + t.length := by rw [strLen_append, strLen_append]; rfl
    show (textFrom 1 (("[" : Str) ++ (if (0 : Nat) > 0 then ", " else "" : String) ++ t) r ++ "]").length ≤ _
    rw [strLen_append, h, e, piled_cons]
    show _ + 1 ≤ _
    omega
noncomputable def PF (X : Cx) (e : Expr) (c : L2.St → Hp → Prop) (n : Nat) : Prop :=
  ∀ (pins : List (Addr × Obj)) (s : Shared) (σ : L2.St) (H : Hp), Inv X pins σ H s → c σ H → wpAny (model X.prog X.w) X.A (eval e X.env) (fun u s' => ∃ y t, u = .str y t ∧ y.length ≤ n ∧ Inv X pins σ H s') X.xe s
noncomputable def PFs (X : Cx) (es : List Expr) (c : L2.St → Hp → Prop) (n : Nat) : Prop :=
  ∀ (out : Str) (pins : List (Addr × Obj)) (s : Shared) (σ : L2.St) (H : Hp), Inv X pins σ H s → c σ H → out.length + n ≤ sizeLine → wpAny (model X.prog X.w) X.A (joinParts out (evalEach es X.env)) (fun u s' => ∃ y t, u = .str y t ∧ Inv X pins σ H s') X.xe s
section
variable {X : Cx}
theorem pf_text {x : Str} {j : Nat} {pos : Pos} {n : Nat} (h : x.length ≤ n) : PF X (.Constant (.str x) j pos) (fun _ _ => True) n := fun _ _ _ _ I _ => Calls.Constant_str ⟨x, _, rfl, h, I.tok _⟩
theorem pf_int {i : Nat} {x : Str} {p pos : Pos} (hv : PE X (.Name x p) (tVar i)) : PF X (.FormattedValue (.Name x p) (-1) none pos) (fun σ _ => ∃ a, σ[i]? = some (some (.int a)) ∧ Small a) 101 := by
  intro pins s σ H I ⟨a, hi, ha⟩
  refine FormattedValue_plain (thn (hv pins s σ H (fun v H' => v = .int a ∧ H' = H) I ⟨_, hi, rfl, rfl⟩) fun u s1 ⟨v, H1, I1, r1, e1, e2⟩ => ?_)
  subst e1 e2
  obtain ⟨t, rfl⟩ := (show ∃ t, u = Value.int a t from r1)
  exact formatField_int_small (small_log ha) ⟨_, _, rfl, small_text ha, I1.tok _⟩
theorem reads_ints {h : Heap} : ∀ {us : List Value} {ns : List Int}, Vals (ns.map V.int) us → ReadsAll h us (ns.map PyData.int) []
  | _, [], .nil => .nil
  | _, n :: ns, .cons r t => by
    obtain ⟨k, rfl⟩ := r
    exact .cons (as := []) (bs := []) (.int n k) (reads_ints t)
theorem shown_ints : ∀ {ns : List Int}, (∀ a ∈ ns, Small a) → piled (PyData.shownAll (ns.map PyData.int)) ≤ 103 * ns.length
  | [], _ => Nat.zero_le _
  | a :: ns, h => by
    have h1 := small_text (h a List.mem_cons_self)
    have h2 := shown_ints fun b hb => h b (List.mem_cons_of_mem _ hb)
    rw [List.map_cons, PyData.shownAll, piled_cons, List.length_cons]
    simp only [PyData.shown]
    show (Str.ofString (toString a)).length + 2 + _ ≤ _
    omega
theorem ok_ints : ∀ {ns : List Int}, (∀ a ∈ ns, Small a) → PyData.showableAll (ns.map PyData.int) = true
  | [], _ => by simp [PyData.showableAll]
  | a :: ns, h => by
    rw [List.map_cons, PyData.showableAll, PyData.showable, ok_ints fun b hb => h b (List.mem_cons_of_mem _ hb), decide_eq_true (small_log (h a List.mem_cons_self))]
    rfl
theorem no_dict_ints : ∀ {ns : List Int}, PyData.hasDictAll (ns.map PyData.int) = false
  | [] => by simp [PyData.hasDictAll]
  | a :: ns => by simp [PyData.hasDictAll, PyData.hasDict, no_dict_ints]
theorem depth_ints : ∀ {ns : List Int}, PyData.depthAll (ns.map PyData.int) ≤ 1
  | [] => by simp [PyData.depthAll]
  | a :: ns => by
    have := depth_ints (ns := ns)
    simp only [List.map_cons, PyData.depthAll, PyData.depth]
    omega
theorem pf_list {k i : Nat} {x : Str} {p pos : Pos} (hr : Room k X.A) (hv : PE X (.Name x p) (tVar i)) : PF X (.FormattedValue (.Name x p) (-1) none pos) (fun σ H => ∃ (a : Addr) (ns : List Int), σ[i]? = some (some (.ref a)) ∧ SqL X.K H a (ns.map V.int) ∧ ns.length ≤ 1000 ∧ ∀ b ∈ ns, Small b) 200000 := by
  intro pins s σ H I ⟨a, ns, hi, ha, hl, hs⟩
  refine FormattedValue_plain (thn (hv pins s σ H (fun v H' => v = .ref a ∧ H' = H) I ⟨_, hi, rfl, rfl⟩) fun u s1 ⟨v, H1, I1, r1, e1, e2⟩ => ?_)
  subst e1 e2
  cases (show u = Value.ref a from r1)
  obtain ⟨its, rv, pl, hz⟩ := I1.list ha
  obtain ⟨o, ho, hc, n, hd⟩ := pl.isList
  have hlen : (PyData.shown (.list (ns.map PyData.int))).length ≤ 200000 := by
    simp only [PyData.shown]
    have h1 := text_le (PyData.shownAll (ns.map PyData.int))
    have h2 := shown_ints hs
    omega
  have R : Reads s1.heap (.ref a) (.list (ns.map PyData.int)) [a] := .list ho hc hd (by simpa using reads_ints rv)
  refine formatField_of_reads R (by rw [PyData.showable]; exact ok_ints hs) (PyData.noDict_hsm (by rw [PyData.hasDict]; exact no_dict_ints)) hr.gu ?_ (fun _ _ e => e) (fun h' t tk kk => ⟨_, t, rfl, hlen, I1.kept kk⟩) (Nat.le_trans hlen (by decide))
  have h1 := depth_ints (ns := ns)
  have h2 := hr.un
  rw [PyData.depth]
  omega
theorem pfs_nil : PFs X [] (fun _ _ => True) 0 := fun out _ _ _ _ I _ h => joinParts_nil ⟨out, _, rfl, I.tok _⟩ (by omega)
theorem pfs_cons {e : Expr} {es : List Expr} {c d : L2.St → Hp → Prop} {n m : Nat} (h1 : PF X e c n) (h2 : PFs X es d m) (he : evalEach (e :: es) X.env = eval e X.env :: evalEach es X.env := by rfl) : PFs X (e :: es) (fun σ H => c σ H ∧ d σ H) (n + m) := by
  intro out pins s σ H I ⟨hc, hd⟩ hl
  rw [he]
  refine joinParts_cons (thn (h1 pins s σ H I hc) fun u s1 ⟨y, t, e, hy, I1⟩ => ?_)
  subst e
  have z : (out ++ y).length = out.length + y.length := strLen_append ..
  exact ⟨by omega, h2 _ pins s1 σ H I1 hd (by omega)⟩
noncomputable def tText (c : L2.St → Hp → Prop) : TE := fun σ H Q => c σ H ∧ ∀ y, Q (.str y) H
theorem pe_fstr {e₁ e₂ : Expr} {es : List Expr} {c : L2.St → Hp → Prop} {n : Nat} {pos : Pos} (h : PFs X (e₁ :: e₂ :: es) c n) (hn : n ≤ sizeLine) : PE X (.JoinedStr (e₁ :: e₂ :: es) pos) (tText c) := by
  intro pins s σ H Q I ⟨hc, q⟩
  refine JoinedStr_many (thn (h Str.empty pins s σ H I hc (by show 0 + n ≤ sizeLine; omega)) fun u s1 ⟨y, t, e, I1⟩ => ?_)
  subst e
  exact ⟨.str y, H, I1, ⟨t, rfl⟩, q y⟩
end
end TT
namespace TT
open PySem PySem.Spec PyProof.Rows L2

/-! ### one value bears one datum -/
mutual
theorem Rep.one {G : Hp} : ∀ {v : V} {d e : D}, Rep G v d → Rep G v e → d = e
  | _, _, _, .int _, .int _ => rfl
  | _, _, _, .str _, .str _ => rfl
  | _, _, _, .bl _, .bl _ => rfl
  | _, _, _, .non, .non => rfl
  | _, _, _, .lst h r, .lst h' r' => by
    rw [h] at h'
    cases h'
    rw [Reps.one r r']
  | _, _, _, .lst h r, .tup h' r' => by
    rw [h] at h'
    cases h'
  | _, _, _, .tup h r, .lst h' r' => by
    rw [h] at h'
    cases h'
  | _, _, _, .tup h r, .tup h' r' => by
    rw [h] at h'
    cases h'
    rw [Reps.one r r']
theorem Reps.one {G : Hp} : ∀ {vs : List V} {ds es : List D}, Reps G vs ds → Reps G vs es → ds = es
  | _, _, _, .nil, .nil => rfl
  | _, _, _, .cons r t, .cons r' t' => by rw [Rep.one r r', Reps.one t t']
end
mutual
theorem Tr.d_one : ∀ {t u : Tr}, t.d = u.d → t = u
  | .node m ks, .node m' ks', h => by
    rw [Tr.d, Tr.d] at h
    injection h with h
    injection h with h1 h2
    injection h1 with h1
    rw [h1, dOf_one h2]
theorem dOf_one : ∀ {ts us : List Tr}, dOf ts = dOf us → ts = us
  | [], [], _ => rfl
  | [], u :: us, h => by rw [dOf, dOf] at h; cases h
  | t :: ts, [], h => by rw [dOf, dOf] at h; cases h
  | t :: ts, u :: us, h => by
    rw [dOf, dOf] at h
    injection h with h1 h2
    rw [Tr.d_one h1, dOf_one h2]
end
theorem rowD_one {ts us : List Tr} (h : rowD ts = rowD us) : ts = us := by
  unfold rowD at h
  injection h with h
  rw [← dOf_map, ← dOf_map] at h
  exact dOf_one h

/-! ### == of trees and of rows -/
theorem all_iff {n : Nat} {e : Nat → Bool} : (List.range n).all e = true ↔ ∀ j, j < n → e j = true := by
  rw [List.all_eq_true]
  exact ⟨fun h j hj => h j (List.mem_range.mpr hj), fun h j hj => h j (List.mem_range.mp hj)⟩
theorem lists_same {α : Type} {a b : List α} (hl : a.length = b.length) (h : ∀ j, j < a.length → a[j]? = b[j]?) : a = b := by
  apply List.ext_getElem? 
  intro j
  by_cases hj : j < a.length
  · exact h j hj
  · rw [List.getElem?_eq_none (by omega), List.getElem?_eq_none (by omega)]
section
variable {P : Program} {w : World} {G H : Hp} {s : Shared}
/-- how items are compared one by one -/
theorem items_eq {A : Around} {vs ws : List V} {ds es : List D} {xs ys : List Value} (hr : Reps G vs ds) (hq : Reps G ws es) (rv : Vals vs xs) (rw' : Vals ws ys)
    (one : ∀ (j : Nat) (v w : V) (d e : D) (x y : Value), ds[j]? = some d → es[j]? = some e → Rep G v d → Rep G w e → RelV v x → RelV w y → ∃ b, SeqAt.EqAt A s x y b ∧ (b = true ↔ d = e)) :
    ∃ f : Nat → Bool, (∀ j (h1 : j < xs.toArray.size) (h2 : j < ys.toArray.size), SeqAt.EqAt A s xs.toArray[j] ys.toArray[j] (f j)) ∧ ∀ j, j < ds.length → j < es.length → (f j = true ↔ ds[j]? = es[j]?) := by
  have l1 := hr.length
  have l2 := hq.length
  have l3 := rv.length
  have l4 := rw'.length
  have H0 : ∀ j : Nat, ∃ b : Bool, (∀ (h1 : j < xs.toArray.size) (h2 : j < ys.toArray.size), SeqAt.EqAt A s xs.toArray[j] ys.toArray[j] b) ∧ (j < ds.length → j < es.length → (b = true ↔ ds[j]? = es[j]?)) := by
    intro j
    by_cases h1 : j < ds.length
    · by_cases h2 : j < es.length
      · obtain ⟨v, hv, rd⟩ := hr.get (List.getElem?_eq_getElem h1)
        obtain ⟨w, hw, re⟩ := hq.get (List.getElem?_eq_getElem h2)
        obtain ⟨x, hx, rx⟩ := rv.get hv
        obtain ⟨y, hy, ry⟩ := rw'.get hw
        obtain ⟨b, hb, hi⟩ := one j v w _ _ x y (List.getElem?_eq_getElem h1) (List.getElem?_eq_getElem h2) rd re rx ry
        refine ⟨b, fun h3 h4 => ?_, fun _ _ => ?_⟩
        · have e1 : xs.toArray[j] = x := by
            have := List.getElem?_eq_some_iff.mp hx
            obtain ⟨_, e⟩ := this
            simpa using e
          have e2 : ys.toArray[j] = y := by
            obtain ⟨_, e⟩ := List.getElem?_eq_some_iff.mp hy
            simpa using e
          rw [e1, e2]
          exact hb
        · rw [hi, List.getElem?_eq_getElem h1, List.getElem?_eq_getElem h2]
          exact ⟨fun z => by rw [z], fun z => Option.some.inj z⟩
      · exact ⟨true, fun _ h4 => absurd h4 (by rw [List.size_toArray]; omega), fun _ h => absurd h h2⟩
    · exact ⟨true, fun h3 _ => absurd h3 (by rw [List.size_toArray]; omega), fun h _ => absurd h h1⟩
  obtain ⟨f, hf⟩ := Classical.skolem.mp H0
  exact ⟨f, fun j => (hf j).1, fun j => (hf j).2⟩
theorem tree_eq (hok : HOk P w H s.heap) (sm : Same G H) : ∀ (n : Nat) (A : Around) (t u : Tr) (v1 v2 : V) (x y : Value), t.knots ≤ n → A.units + n < cLine → Rep G v1 t.d → Rep G v2 u.d → RelV v1 x → RelV v2 y →
    ∃ b, SeqAt.EqAt A s x y b ∧ (b = true ↔ t.d = u.d)
  | 0, _, t, _, _, _, _, _, hk, _, _, _, _, _ => by rw [knots_eq] at hk; omega
  | n + 1, A, t, u, v1, v2, x, y, hk, hu, r1, r2, q1, q2 => by
    obtain ⟨a, av, rfl, ha, ra⟩ := r1.tree
    obtain ⟨c, cv, rfl, hc, rc⟩ := r2.tree
    cases (show x = Value.ref a from q1)
    cases (show y = Value.ref c from q2)
    by_cases hac : a = c
    · subst hac
      exact ⟨true, SeqAt.EqAt.same _, fun _ => r1.one r2, fun _ => rfl⟩
    · obtain ⟨_, xs, rx, hx⟩ := hok a _ (sm _ _ ha)
      obtain ⟨_, ys, ry, hy⟩ := hok c _ (sm _ _ hc)
      have R1 : Reps G (.str t.mark :: av) (.str t.mark :: t.kids.map Tr.d) := .cons (.str _) ra
      have R2 : Reps G (.str u.mark :: cv) (.str u.mark :: u.kids.map Tr.d) := .cons (.str _) rc
      obtain ⟨f, hf, hi⟩ := items_eq (s := s) (A := A.in1) R1 R2 rx ry (fun j v w d e p q hd he rd re rp rq => by
        cases j with
        | zero =>
          have e1 : D.str t.mark = d := by simpa using hd
          have e2 : D.str u.mark = e := by simpa using he
          subst e1 e2
          cases rd
          cases re
          obtain ⟨k1, rfl⟩ := (show ∃ k, p = Value.str t.mark k from rp)
          obtain ⟨k2, rfl⟩ := (show ∃ k, q = Value.str u.mark k from rq)
          refine ⟨_, SeqAt.EqAt.str_str _ _ _ _, ?_⟩
          rw [beq_iff_eq]
          exact ⟨fun z => by rw [z], fun z => by injection z⟩
        | succ i =>
          have hd' : (t.kids.map Tr.d)[i]? = some d := by simpa using hd
          have he' : (u.kids.map Tr.d)[i]? = some e := by simpa using he
          rw [List.getElem?_map] at hd' he'
          obtain ⟨k1, h1, rfl⟩ := Option.map_eq_some_iff.mp hd'
          obtain ⟨k2, h2, rfl⟩ := Option.map_eq_some_iff.mp he'
          have hkn := knots_mem (List.mem_of_getElem? h1)
          rw [knots_eq] at hk
          exact tree_eq hok sm n A.in1 k1 k2 v w p q (by omega) (by show A.units + 1 + n < cLine; omega) rd re rp rq)
      refine ⟨_, SeqAt.EqAt.of_refs hac (SeqAt.RcAt.tuples (show s.heap.IsTuple a xs.toArray from hx) (show s.heap.IsTuple c ys.toArray from hy) (by omega) hf), ?_⟩
      have l1 := rx.length
      have l2 := ry.length
      have l3 := R1.length
      have l4 := R2.length
      rw [Bool.and_eq_true, all_iff, beq_iff_eq, List.size_toArray, List.size_toArray, tree_d t, tree_d u]
      constructor
      · rintro ⟨h1, h2⟩
        congr 1
        exact lists_same (by omega) fun j hj => (hi j hj (by omega)).mp (h1 j (by omega))
      · intro h
        injection h with h
        refine ⟨fun j hj => (hi j (by omega) (by omega)).mpr (by rw [h]), ?_⟩
        have := congrArg List.length h
        omega
end
/-- == of two rows -/
noncomputable def rEqRow (K : PySem.W.Frag) : R2 := fun x y H Q => ∃ (G : Hp) (ts us : List Tr), Same G H ∧ Rep G x (rowD ts) ∧ Rep G y (rowD us) ∧ knotsOf ts ≤ 100 ∧ ((ts = us → Q (.bl true) H) ∧ (ts ≠ us → Q (.bl false) H))
theorem op_eqRow {X : Cx} {k : Nat} (hr : Room k X.A) : OpR X (compareOp .Eq) (rEqRow X.K) := by
  intro pins s σ H x y v u Q I rx ry h
  obtain ⟨G, ts, us, sm, r1, r2, hk, q1, q2⟩ := h
  have hun := hr.un
  obtain ⟨a, av, rfl, ha, ra⟩ := r1.row
  obtain ⟨c, cv, rfl, hc, rc⟩ := r2.row
  cases (show v = Value.ref a from rx)
  cases (show u = Value.ref c from ry)
  obtain ⟨xs, rv, p1, _⟩ := I.list (SqL.of (K := X.K) (sm _ _ ha))
  obtain ⟨ys, rw', p2, _⟩ := I.list (SqL.of (K := X.K) (sm _ _ hc))
  obtain ⟨f, hf, hi⟩ := items_eq (s := s) (A := X.A.in1) ra rc rv rw' (fun j v w d e p q hd he rd re rp rq => by
    rw [List.getElem?_map] at hd he
    obtain ⟨k1, h1, rfl⟩ := Option.map_eq_some_iff.mp hd
    obtain ⟨k2, h2, rfl⟩ := Option.map_eq_some_iff.mp he
    have hkn := knots_mem (List.mem_of_getElem? h1)
    exact tree_eq I.hok sm 100 X.A.in1 k1 k2 v w p q (by omega) (by show X.A.units + 1 + 100 < cLine; omega) rd re rp rq)
  have l1 := rv.length
  have l2 := rw'.length
  have l3 := ra.length
  have l4 := rc.length
  by_cases hl : xs.length = ys.length
  · refine SeqAt.eq_listAt p1.isList p2.isList (by rw [List.size_toArray, List.size_toArray]; exact hl) (by omega) hf ?_
    have key : (List.range xs.toArray.size).all f = true ↔ ts = us := by
      rw [all_iff, List.size_toArray]
      constructor
      · intro h
        refine rowD_one ?_
        unfold rowD
        congr 1
        exact lists_same (by omega) fun j hj => (hi j hj (by omega)).mp (h j (by omega))
      · rintro rfl j hj
        exact (hi j (by omega) (by omega)).mpr rfl
    cases hb : (List.range xs.toArray.size).all f with
    | true => exact ⟨.bl true, H, I, rfl, q1 (key.mp hb)⟩
    | false => exact ⟨.bl false, H, I, rfl, q2 fun z => by rw [key.mpr z] at hb; cases hb⟩
  · refine SeqAt.eq_list_lengthsAt p1.isList p2.isList (by rw [List.size_toArray, List.size_toArray, bne_iff_ne]; exact hl) (by omega) ⟨.bl false, H, I, rfl, q2 fun z => ?_⟩
    subst z
    omega
end TT
namespace TT
open PySem PySem.Spec PyProof.Rows L2
end TT
namespace TT
open PySem L2
/-! ### steps -/
noncomputable def levelsOf (ts : List Tr) (p : List Int) : List (List Tr) := (List.range (p.length + 1)).map fun j => (down ts (p.take j)).getD []
theorem levelsOf_length (ts : List Tr) (p : List Int) : (levelsOf ts p).length = p.length + 1 := by unfold levelsOf; rw [List.length_map, List.length_range]
theorem levelsOf_get {ts us : List Tr} {p : List Int} {j : Nat} (hj : j ≤ p.length) (h : down ts (p.take j) = some us) : (levelsOf ts p)[j]? = some us := by
  unfold levelsOf
  rw [List.getElem?_map, List.getElem?_range (by omega), Option.map_some, h]
  rfl
theorem down_at {ts : List Tr} {p : List Int} (h : (down ts p).isSome = true) {i : Nat} (hi : i < p.length) :
    ∃ us t, down ts (p.take i) = some us ∧ 0 ≤ p[i] ∧ us[(p[i]).toNat]? = some t ∧ down ts (p.take (i + 1)) = some t.kids := by
  have e := down_append ts (p.take i) (p.drop i)
  rw [List.take_append_drop] at e
  cases h1 : down ts (p.take i) with
  | none => rw [h1] at e; rw [e] at h; cases h
  | some us =>
    rw [h1, List.drop_eq_getElem_cons hi] at e
    have e2 : down ts p = down us (p[i] :: p.drop (i + 1)) := e
    rw [down] at e2
    by_cases h0 : p[i] < 0
    · rw [if_pos h0] at e2; rw [e2] at h; cases h
    · rw [if_neg h0] at e2
      cases h2 : us[(p[i]).toNat]? with
      | none => rw [h2] at e2; rw [e2] at h; cases h
      | some t =>
        refine ⟨us, t, rfl, by omega, h2, ?_⟩
        rw [List.take_succ_eq_append_getElem hi, down_append, h1]
        show down us [p[i]] = _
        rw [down, if_neg h0, h2]
        rfl
noncomputable def setAt : List Tr → List Int → List Tr → List Tr
  | _, [], xs => xs
  | ts, i :: p, xs => match ts[i.toNat]? with
    | none => ts
    | some t => ts.take i.toNat ++ [Tr.node t.mark (setAt t.kids p xs)] ++ ts.drop (i.toNat + 1)
theorem setAt_cons {ts xs : List Tr} {i : Int} {p : List Int} {t : Tr} (h : ts[i.toNat]? = some t) : setAt ts (i :: p) xs = ts.take i.toNat ++ [Tr.node t.mark (setAt t.kids p xs)] ++ ts.drop (i.toNat + 1) := by rw [setAt, h]
theorem knots_cut {ts : List Tr} {i : Nat} {t : Tr} (h : ts[i]? = some t) : knotsOf ts = knotsOf (ts.take i) + (1 + knotsOf t.kids) + knotsOf (ts.drop (i + 1)) := by
  obtain ⟨hi, e⟩ := List.getElem?_eq_some_iff.mp h
  have h1 := knotsOf_append (ts.take i) (ts.drop i)
  rw [List.take_append_drop, List.drop_eq_getElem_cons hi, knotsOf, knots_eq, e] at h1
  omega
theorem setAt_knots : ∀ (p : List Int) (ts us xs : List Tr), down ts p = some us → knotsOf (setAt ts p xs) + knotsOf us = knotsOf ts + knotsOf xs
  | [], ts, us, xs, h => by cases h; rw [setAt]; omega
  | i :: p, ts, us, xs, h => by
    rw [down] at h
    by_cases h0 : i < 0
    · rw [if_pos h0] at h; cases h
    · rw [if_neg h0] at h
      cases h2 : ts[i.toNat]? with
      | none => rw [h2] at h; cases h
      | some t =>
        rw [h2] at h
        have := setAt_knots p t.kids us xs h
        have hc := knots_cut h2
        rw [setAt_cons h2, knotsOf_append, knotsOf_append, knotsOf, knotsOf, Tr.knots]
        omega
inductive Stp where
  | mark (p : List Int) (m : Str) | cut (p : List Int) | put (p : List Int) (n : Int) (m : Str)
noncomputable def Stp.path : Stp → List Int
  | .mark p _ => p
  | .cut p => p
  | .put p _ _ => p
noncomputable def Stp.many : Stp → Int
  | .put _ n _ => n
  | _ => 1
noncomputable def Stp.kind : Stp → Str
  | .mark _ _ => Str.ofString "mark"
  | .cut _ => Str.ofString "cut"
  | .put _ _ _ => Str.ofString "put"
noncomputable def Stp.d : Stp → D
  | .mark p m => .tup [.str (Str.ofString "mark"), pathD p, .str m]
  | .cut p => .tup [.str (Str.ofString "cut"), pathD p]
  | .put p n m => .tup [.str (Str.ofString "put"), pathD p, .int n, .str m]
noncomputable def Stp.instead : Stp → List Tr → List Tr
  | .mark _ m, t :: _ => [.node m t.kids]
  | .cut _, t :: _ => t.kids
  | .put _ _ m, ts => [.node m ts]
  | _, [] => []
/-- the trees beside, where the step can be done -/
noncomputable def Stp.beside (st : Stp) (row : List Tr) : Option (List Tr) :=
  if st.path = [] then none else (down row st.path.dropLast).bind fun bs => if st.path.getLastD 0 < 0 ∨ st.many < 0 ∨ (bs.length : Int) < st.path.getLastD 0 + st.many then none else some bs
noncomputable def Stp.row (st : Stp) (row bs : List Tr) : List Tr :=
  setAt row st.path.dropLast (bs.take (st.path.getLastD 0).toNat ++ st.instead ((bs.drop (st.path.getLastD 0).toNat).take st.many.toNat) ++ bs.drop ((st.path.getLastD 0).toNat + st.many.toNat))
noncomputable def Stp.Fit (st : Stp) : Prop := st.path.length ≤ 1000 ∧ (∀ a ∈ st.path, Small a) ∧ Small st.many
theorem Rep.step {G : Hp} {v : V} {st : Stp} (r : Rep G v st.d) : ∃ a xs pa, v = .ref a ∧ G a = some (.tup xs) ∧ xs[0]? = some (.str st.kind) ∧ xs[1]? = some (.ref pa) ∧ G pa = some (.lst (st.path.map V.int)) ∧ xs.length ≤ 4 := by
  cases st with
  | mark p m =>
    cases r with
    | tup h t => cases t with
      | cons r1 t => cases t with
        | cons r2 t => cases t with
          | cons r3 t =>
            cases t; cases r1; cases r3
            obtain ⟨pa, rfl, hp⟩ := Rep.path r2
            exact ⟨_, _, pa, rfl, h, rfl, rfl, hp, by simp⟩
  | cut p =>
    cases r with
    | tup h t => cases t with
      | cons r1 t => cases t with
        | cons r2 t =>
          cases t; cases r1
          obtain ⟨pa, rfl, hp⟩ := Rep.path r2
          exact ⟨_, _, pa, rfl, h, rfl, rfl, hp, by simp⟩
  | put p n m =>
    cases r with
    | tup h t => cases t with
      | cons r1 t => cases t with
        | cons r2 t => cases t with
          | cons r3 t => cases t with
            | cons r4 t =>
              cases t; cases r1; cases r3; cases r4
              obtain ⟨pa, rfl, hp⟩ := Rep.path r2
              exact ⟨_, _, pa, rfl, h, rfl, rfl, hp, by simp⟩
theorem last_int {p : List Int} (h : p ≠ []) : atI (p.map V.int) (-1) = some (.int (p.getLastD 0)) := by
  obtain ⟨q, i, rfl⟩ : ∃ q i, p = q ++ [i] := ⟨p.dropLast, p.getLast h, (List.dropLast_concat_getLast h).symm⟩
  unfold atI ixN
  rw [if_neg (by decide), if_pos (by simp only [List.length_map, List.length_append, List.length_singleton]; omega)]
  have e : ((-1 : Int) + (((q ++ [i]).map V.int).length : Int)).toNat = q.length := by simp only [List.length_map, List.length_append, List.length_singleton]; omega
  rw [Option.bind_some, e]
  simp
theorem front_ints (p : List Int) : cutV (p.map V.int) none (some (-1)) = p.dropLast.map V.int := by
  rw [cut_front, List.length_map, List.dropLast_eq_take, List.map_take]
/-- what is done with the last level -/
theorem last_of_levels {ts us : List Tr} {p : List Int} {vs : List V} {G : Hp} (r : Reps G vs ((levelsOf ts p).map rowD)) (h : down ts p = some us) : ∃ v, atI vs (-1) = some v ∧ Rep G v (rowD us) := by
  have hl := r.length
  rw [List.length_map, levelsOf_length] at hl
  have hg := levelsOf_get (Nat.le_refl _) (show down ts (p.take p.length) = some us by rw [List.take_length]; exact h)
  obtain ⟨v, hv, rv⟩ := r.get (i := p.length) (d := rowD us) (by rw [List.getElem?_map, hg]; rfl)
  refine ⟨v, ?_, rv⟩
  unfold atI ixN
  rw [if_neg (by decide), if_pos (by omega)]
  have e : ((-1 : Int) + (vs.length : Int)).toNat = p.length := by omega
  rw [Option.bind_some, e, hv]
/-- a list of ours is frozen as it stands -/
theorem Ext.freeze {G H G2 H2 : Hp} {a : Addr} {o : HO} (x : Ext G H G2 H2) (n : G2 a = none) (nh : H a = none) (h : H2 a = some o) : Ext G H (upd G2 a o) H2 := by
  refine ⟨x.g.trans (same_upd n), fun b u e => ?_, x.h, fun b u e => ?_⟩
  · by_cases hb : b = a
    · subst hb
      rw [upd_same] at e
      cases e
      exact h
    · rw [upd_ne hb] at e
      exact x.gh b u e
  · rw [upd_ne (ne_of_none e nh)]
    exact x.new b u e
end TT
namespace TT
open PySem
/-! ### what it costs to make one row of another, by the last trees -/
noncomputable def dif (t u : Tr) : Nat := if t.mark = u.mark then 0 else 1
inductive Ed : List Tr → List Tr → Nat → Prop
  | nil : Ed [] [] 0
  | del {X F G : List Tr} {t : Tr} {n : Nat} (e : X = F ++ [t]) (h : Ed (F ++ t.kids) G n) : Ed X G (n + 1)
  | ins {Y F G : List Tr} {u : Tr} {n : Nat} (e : Y = G ++ [u]) (h : Ed F (G ++ u.kids) n) : Ed F Y (n + 1)
  | both {X Y F G : List Tr} {t u : Tr} {n m : Nat} (e : X = F ++ [t]) (e' : Y = G ++ [u]) (h : Ed F G n) (k : Ed t.kids u.kids m) : Ed X Y (n + m + dif t u)
/-! ### the least -/
end TT
namespace TT
open PySem
/-! ### a step costs one at most -/
theorem beside_parts {st : Stp} {ts bs : List Tr} (h : st.beside ts = some bs) : st.path ≠ [] ∧ down ts st.path.dropLast = some bs ∧ 0 ≤ st.path.getLastD 0 ∧ 0 ≤ st.many ∧ st.path.getLastD 0 + st.many ≤ bs.length := by
  unfold Stp.beside at h
  by_cases hp : st.path = []
  · rw [if_pos hp] at h; cases h
  · rw [if_neg hp] at h
    cases hd : down ts st.path.dropLast with
    | none => rw [hd] at h; cases h
    | some us =>
      rw [hd, Option.bind_some] at h
      by_cases hc : st.path.getLastD 0 < 0 ∨ st.many < 0 ∨ (us.length : Int) < st.path.getLastD 0 + st.many
      · rw [if_pos hc] at h; cases h
      · rw [if_neg hc] at h
        cases h
        exact ⟨hp, rfl, by omega, by omega, by omega⟩
end TT
namespace TT
open PySem
/-! ### a step turned -/
theorem set_at {ts : List Tr} {i : Nat} {t u : Tr} (h : ts[i]? = some t) : (ts.take i ++ [u] ++ ts.drop (i + 1))[i]? = some u := by
  obtain ⟨hi, _⟩ := List.getElem?_eq_some_iff.mp h
  rw [List.append_assoc, List.getElem?_append_right (by rw [List.length_take]; omega), List.length_take, Nat.min_eq_left (by omega), Nat.sub_self]
  rfl
theorem set_take {ts : List Tr} {i : Nat} {t u : Tr} (h : ts[i]? = some t) : (ts.take i ++ [u] ++ ts.drop (i + 1)).take i = ts.take i := by
  obtain ⟨hi, _⟩ := List.getElem?_eq_some_iff.mp h
  rw [List.append_assoc, List.take_append_of_le_length (by rw [List.length_take]; omega), List.take_take, Nat.min_self]
theorem set_drop {ts : List Tr} {i : Nat} {t u : Tr} (h : ts[i]? = some t) : (ts.take i ++ [u] ++ ts.drop (i + 1)).drop (i + 1) = ts.drop (i + 1) := by
  obtain ⟨hi, _⟩ := List.getElem?_eq_some_iff.mp h
  rw [List.drop_left' (by rw [List.length_append, List.length_take, List.length_singleton]; omega)]
theorem down_set : ∀ (p : List Int) (ts us xs : List Tr), down ts p = some us → down (setAt ts p xs) p = some xs
  | [], ts, us, xs, _ => by rw [setAt]; rfl
  | i :: p, ts, us, xs, h => by
    rw [down] at h
    by_cases h0 : i < 0
    · rw [if_pos h0] at h; cases h
    · rw [if_neg h0] at h
      cases h2 : ts[i.toNat]? with
      | none => rw [h2] at h; cases h
      | some t =>
        rw [h2] at h
        rw [setAt_cons h2, down, if_neg h0, set_at h2]
        exact down_set p t.kids us xs h
theorem set_set : ∀ (p : List Int) (ts us xs ys : List Tr), down ts p = some us → setAt (setAt ts p xs) p ys = setAt ts p ys
  | [], ts, us, xs, ys, _ => rfl
  | i :: p, ts, us, xs, ys, h => by
    rw [down] at h
    by_cases h0 : i < 0
    · rw [if_pos h0] at h; cases h
    · rw [if_neg h0] at h
      cases h2 : ts[i.toNat]? with
      | none => rw [h2] at h; cases h
      | some t =>
        rw [h2] at h
        rw [setAt_cons h2, setAt_cons (set_at h2), set_take h2, set_drop h2, setAt_cons h2]
        show _ ++ [Tr.node t.mark (setAt (setAt t.kids p xs) p ys)] ++ _ = _
        rw [set_set p t.kids us xs ys h]
theorem set_same : ∀ (p : List Int) (ts us : List Tr), down ts p = some us → setAt ts p us = ts
  | [], ts, us, h => by cases h; rw [setAt]
  | i :: p, ts, us, h => by
    rw [down] at h
    by_cases h0 : i < 0
    · rw [if_pos h0] at h; cases h
    · rw [if_neg h0] at h
      cases h2 : ts[i.toNat]? with
      | none => rw [h2] at h; cases h
      | some t =>
        rw [h2] at h
        rw [setAt_cons h2, set_same p t.kids us h]
        obtain ⟨hi, et⟩ := List.getElem?_eq_some_iff.mp h2
        have e : Tr.node t.mark t.kids = t := by cases t; rfl
        rw [e, List.append_assoc, List.singleton_append, ← et, ← List.drop_eq_getElem_cons hi, List.take_append_drop]
/-- the step that leads back, by the trees that were taken -/
noncomputable def Stp.back : Stp → List Tr → Stp
  | .put p _ _, _ => .cut p
  | .cut p, t :: _ => .put p (t.kids.length : Int) t.mark
  | .mark p _, t :: _ => .mark p t.mark
  | st, [] => st
theorem back_path (st : Stp) (xs : List Tr) : (st.back xs).path = st.path := by
  cases st <;> cases xs <;> rfl
theorem back_many {st : Stp} {xs : List Tr} (h : xs.length = st.many.toNat) : (st.back xs).many = ((st.instead xs).length : Int) := by
  cases st with
  | put p n m => rfl
  | cut p =>
    match xs, h with
    | [t], _ => rfl
    | [], h => exact absurd (show (0 : Nat) = 1 from h) (by decide)
    | _ :: _ :: r, h => exact absurd (show r.length + 1 + 1 = 1 from h) (by omega)
  | mark p m =>
    match xs, h with
    | [t], _ => rfl
    | [], h => exact absurd (show (0 : Nat) = 1 from h) (by decide)
    | _ :: _ :: r, h => exact absurd (show r.length + 1 + 1 = 1 from h) (by omega)
theorem back_instead {st : Stp} {xs : List Tr} (h : xs.length = st.many.toNat) : (st.back xs).instead (st.instead xs) = xs := by
  cases st with
  | put p n m => rfl
  | cut p =>
    match xs, h with
    | [t], _ => cases t; rfl
    | [], h => exact absurd (show (0 : Nat) = 1 from h) (by decide)
    | _ :: _ :: r, h => exact absurd (show r.length + 1 + 1 = 1 from h) (by omega)
  | mark p m =>
    match xs, h with
    | [t], _ => cases t; rfl
    | [], h => exact absurd (show (0 : Nat) = 1 from h) (by decide)
    | _ :: _ :: r, h => exact absurd (show r.length + 1 + 1 = 1 from h) (by omega)
theorem step_back {st : Stp} {ts bs xs : List Tr} (h : st.beside ts = some bs) (hxs : (bs.drop (st.path.getLastD 0).toNat).take st.many.toNat = xs) : ∃ cs, (st.back xs).beside (st.row ts bs) = some cs ∧ (st.back xs).row (st.row ts bs) cs = ts := by
  obtain ⟨hp, hd, hi0, hn0, hle⟩ := beside_parts h
  obtain ⟨i, hi⟩ : ∃ i : Nat, st.path.getLastD 0 = (i : Int) := ⟨(st.path.getLastD 0).toNat, by omega⟩
  obtain ⟨n, hn⟩ : ∃ n : Nat, st.many = (n : Int) := ⟨st.many.toNat, by omega⟩
  have hin : (st.path.getLastD 0).toNat = i := by omega
  have hnn : st.many.toNat = n := by omega
  rw [hin, hnn] at hxs
  have hl : xs.length = st.many.toNat := by rw [← hxs, List.length_take, List.length_drop, hnn]; omega
  have hr : st.row ts bs = setAt ts st.path.dropLast (bs.take i ++ st.instead xs ++ bs.drop (i + n)) := by
    unfold Stp.row
    rw [hin, hnn, hxs]
  have hm := back_many hl
  have hb := back_instead hl
  have hcl : (bs.take i).length = i := by rw [List.length_take]; omega
  have ht : (bs.take i ++ st.instead xs ++ bs.drop (i + n)).take i = bs.take i := by rw [List.append_assoc, List.take_left' hcl]
  have hc : (bs.take i ++ st.instead xs ++ bs.drop (i + n)).drop i = st.instead xs ++ bs.drop (i + n) := by rw [List.append_assoc, List.drop_left' hcl]
  have hq : (bs.take i ++ st.instead xs ++ bs.drop (i + n)).drop (i + (st.instead xs).length) = bs.drop (i + n) := by rw [List.drop_left' (by rw [List.length_append, hcl])]
  have hmn : (st.back xs).many.toNat = (st.instead xs).length := by rw [hm]; rfl
  rw [hr]
  refine ⟨bs.take i ++ st.instead xs ++ bs.drop (i + n), ?_, ?_⟩
  · unfold Stp.beside
    rw [back_path, if_neg hp, down_set _ ts bs _ hd, Option.bind_some, if_neg]
    rw [hi, hm]
    rintro (z | z | z)
    · omega
    · omega
    · rw [List.length_append, List.length_append, hcl] at z
      omega
  · unfold Stp.row
    rw [back_path, hin, hmn, ht, hc, hq, List.take_left, hb, set_set _ ts bs _ _ hd]
    have e1 : bs.take i ++ xs ++ bs.drop (i + n) = bs := by
      rw [← hxs, List.append_assoc, ← List.drop_drop, List.take_append_drop, List.take_append_drop]
    rw [e1]
    exact set_same _ ts bs hd
end TT
namespace TT
open PySem
/-! ### steps one behind the other -/
noncomputable def runS : List Stp → List Tr → Option (List Tr)
  | [], ts => some ts
  | st :: r, ts => match st.beside ts with
    | none => none
    | some bs => runS r (st.row ts bs)
theorem runS_app : ∀ (a b : List Stp) (ts : List Tr), runS (a ++ b) ts = (runS a ts).bind (runS b)
  | [], b, ts => rfl
  | st :: a, b, ts => by
    rw [List.cons_append, runS, runS]
    cases st.beside ts with
    | none => rfl
    | some bs => exact runS_app a b _
noncomputable def backsS : List Stp → List Tr → List Stp
  | [], _ => []
  | st :: r, ts => match st.beside ts with
    | none => []
    | some bs => st.back ((bs.drop (st.path.getLastD 0).toNat).take st.many.toNat) :: backsS r (st.row ts bs)
theorem backsS_snoc : ∀ (a : List Stp) (st : Stp) (ts cs bs : List Tr), runS a ts = some cs → st.beside cs = some bs → backsS (a ++ [st]) ts = backsS a ts ++ [st.back ((bs.drop (st.path.getLastD 0).toNat).take st.many.toNat)]
  | [], st, ts, cs, bs, h, k => by
    cases h
    show backsS [st] ts = [st.back _]
    rw [backsS, k]
    rfl
  | s :: a, st, ts, cs, bs, h, k => by
    rw [runS] at h
    rw [List.cons_append, backsS, backsS]
    cases e : s.beside ts with
    | none => rw [e] at h; cases h
    | some us =>
      rw [e] at h
      exact congrArg _ (backsS_snoc a st _ cs bs h k)
/-- the turned ones, from the last to the first, lead back -/
theorem runS_back : ∀ (a : List Stp) (ts cs : List Tr), runS a ts = some cs → runS (backsS a ts).reverse cs = some ts
  | [], ts, cs, h => by cases h; rfl
  | s :: a, ts, cs, h => by
    rw [runS] at h
    rw [backsS]
    cases e : s.beside ts with
    | none => rw [e] at h; cases h
    | some us =>
      rw [e] at h
      have ih := runS_back a _ cs h
      obtain ⟨ds, h1, h2⟩ := step_back e rfl
      show runS (_ :: backsS a (s.row ts us)).reverse cs = some ts
      rw [List.reverse_cons, runS_app, ih, Option.bind_some, runS, h1]
      show runS [] _ = some ts
      rw [h2]
      rfl
end TT
namespace TT
open PySem PySem.Spec PyProof.Rows L2
/-! ### what holds behind a statement, said once -/
noncomputable def tMid (t : TS) : TS := fun De σ H => ∃ N : L2.St → Hp → Prop, t { De with nx := N } σ H ∧ ∀ σ' H', N σ' H' → De.nx σ' H'
theorem ps_mid {X : Cx} {st : Stmt} {t : TS} (h : PS X st t) : PS X st (tMid t) := by
  intro pins s σ H De I ⟨N, q, hN⟩
  refine thn (h pins s σ H { De with nx := N } I q) fun f s' q => ?_
  cases f with
  | next => obtain ⟨σ', H', I', q⟩ := q; exact ⟨σ', H', I', hN _ _ q⟩
  | brk => exact q
  | cont => exact q
  | ret v => exact q
/-! ### paths that lead somewhere -/
theorem path_len : ∀ (p : List Int) (ts : List Tr), (down ts p).isSome = true → p.length ≤ knotsOf ts
  | [], _, _ => Nat.zero_le _
  | i :: p, ts, h => by
    rw [down] at h
    by_cases h0 : i < 0
    · rw [if_pos h0] at h; cases h
    · rw [if_neg h0] at h
      cases e : ts[i.toNat]? with
      | none => rw [e] at h; cases h
      | some t =>
        rw [e] at h
        have h1 := path_len p t.kids h
        have h2 := knots_mem (List.mem_of_getElem? e)
        rw [knots_eq] at h2
        rw [List.length_cons]
        omega
theorem path_in {ts : List Tr} {p : List Int} (h : (down ts p).isSome = true) : ∀ a ∈ p, a.natAbs < knotsOf ts + 1 := fun a ha => by
  obtain ⟨i, hi, rfl⟩ := List.mem_iff_getElem.mp ha
  obtain ⟨us, t, hus, h0, ht, _⟩ := down_at h hi
  have h1 := (List.getElem?_eq_some_iff.mp ht).1
  have h2 := length_le_knots us
  have h3 := down_knots _ _ _ hus
  omega
theorem pick_int {xs : List Int} {j : Int} (h0 : 0 ≤ j) (h1 : j < xs.length) : ∃ n, atI (xs.map V.int) j = some (V.int n) ∧ n ∈ xs := by
  have hj : j.toNat < xs.length := by omega
  have e := ints_ix (ns := xs) hj
  rw [Int.toNat_of_nonneg h0] at e
  exact ⟨_, e, List.getElem_mem hj⟩
end TT
namespace TT
open PySem
end TT
namespace TT
open PySem PySem.Spec PyProof.Rows L2
/-! ### an if under try -/
noncomputable def tbIf (tc : TT) (ta tb : TB) : TB := fun D E σ H => tc σ H fun k H1 => if k = true then ta D E σ H1 else tb D E σ H1
theorem pb_if {X : Cx} {c : Expr} {a b : List Stmt} {tc : TT} {ta tb : TB} {pos : Pos} (hc : PT X.nox c tc) (ha : PB X a ta) (hb : PB X b tb) : PB X [.If c a b pos] (tbIf tc ta tb) := by
  intro pins s σ H D E I h
  have last : ∀ {s' : Shared} {sts : List Stmt}, wpAny (model X.prog X.w) X.A (execs sts X.env) (SP X pins D) (Caught X pins σ E) s' →
      wpAny (model X.prog X.w) X.A (execs sts X.env) (fun f s1 => match f with | .next => wpAny (model X.prog X.w) X.A (execs [] X.env) (SP X pins D) (Caught X pins σ E) s1 | f => SP X pins D f s1) (Caught X pins σ E) s' := fun q => thn q fun f s1 q => by
    cases f with
    | next => exact wpAny_execs_nil q
    | ret v => exact q
    | brk => exact q
    | cont => exact q
  refine wpAny_execs_cons (wpAny_If (wpAny_mono (hc pins s σ H _ (I.wish _) h) (fun d s1 ⟨H1, I1, q⟩ => ?_) fun _ _ z => False.elim z))
  cases d with
  | true => exact last (ha pins s1 σ H1 D E I1.unwish q)
  | false => exact last (hb pins s1 σ H1 D E I1.unwish q)
/-! ### != of two rows -/
noncomputable def rNeRow (K : PySem.W.Frag) : R2 := fun x y H Q => ∃ (G : Hp) (ts us : List Tr), Same G H ∧ Rep G x (rowD ts) ∧ Rep G y (rowD us) ∧ knotsOf ts ≤ 100 ∧ ((ts = us → Q (.bl false) H) ∧ (ts ≠ us → Q (.bl true) H))
theorem op_neRow {X : Cx} {k : Nat} (hr : Room k X.A) : OpR X (compareOp .NotEq) (rNeRow X.K) := by
  intro pins s σ H x y v u Q I rx ry h
  obtain ⟨G, ts, us, sm, r1, r2, hk, q1, q2⟩ := h
  have hun := hr.un
  obtain ⟨a, av, rfl, ha, ra⟩ := r1.row
  obtain ⟨c, cv, rfl, hc, rc⟩ := r2.row
  cases (show v = Value.ref a from rx)
  cases (show u = Value.ref c from ry)
  obtain ⟨xs, rv, p1, _⟩ := I.list (SqL.of (K := X.K) (sm _ _ ha))
  obtain ⟨ys, rw', p2, _⟩ := I.list (SqL.of (K := X.K) (sm _ _ hc))
  obtain ⟨f, hf, hi⟩ := items_eq (s := s) (A := X.A.in1) ra rc rv rw' (fun j v w d e p q hd he rd re rp rq => by
    rw [List.getElem?_map] at hd he
    obtain ⟨k1, h1, rfl⟩ := Option.map_eq_some_iff.mp hd
    obtain ⟨k2, h2, rfl⟩ := Option.map_eq_some_iff.mp he
    have hkn := knots_mem (List.mem_of_getElem? h1)
    exact tree_eq I.hok sm 100 X.A.in1 k1 k2 v w p q (by omega) (by show X.A.units + 1 + 100 < cLine; omega) rd re rp rq)
  have l1 := rv.length
  have l2 := rw'.length
  have l3 := ra.length
  have l4 := rc.length
  by_cases hl : xs.length = ys.length
  · have key : (List.range xs.toArray.size).all f = true ↔ ts = us := by
      rw [all_iff, List.size_toArray]
      constructor
      · intro h
        refine rowD_one ?_
        unfold rowD
        congr 1
        exact lists_same (by omega) fun j hj => (hi j hj (by omega)).mp (h j (by omega))
      · rintro rfl j hj
        exact (hi j (by omega) (by omega)).mpr rfl
    refine SeqAt.RcNeAt.lists p1.isList p2.isList (by rw [List.size_toArray, List.size_toArray]; exact hl) (by omega) hf X.prog X.w X.xe _ ?_
    cases hb : (List.range xs.toArray.size).all f with
    | true => exact ⟨.bl false, H, I, rfl, q1 (key.mp hb)⟩
    | false => exact ⟨.bl true, H, I, rfl, q2 fun z => by rw [key.mpr z] at hb; cases hb⟩
  · refine SeqAt.RcNeAt.lists_lengths p1.isList p2.isList (by rw [List.size_toArray, List.size_toArray, bne_iff_ne]; exact hl) (by omega) X.prog X.w X.xe _ ⟨.bl true, H, I, rfl, q2 fun z => ?_⟩
    subst z
    omega
end TT
namespace TT
open PySem PySem.Spec PyProof.Rows L2
theorem step_parts {G : Hp} {v : V} {st : Stp} (r : Rep G v st.d) : ∃ (a pq : Addr) (rest : List V) (ds : List D), v = .ref a ∧ G a = some (.tup (.str st.kind :: .ref pq :: rest)) ∧ G pq = some (.lst (st.path.map V.int)) ∧ st.d = .tup (.str st.kind :: pathD st.path :: ds) ∧ Reps G rest ds ∧ rest.length ≤ 2 := by
  cases st with
  | mark p m =>
    cases r with
    | tup h t => cases t with
      | cons r1 t => cases t with
        | cons r2 t =>
          have hl := t.length
          cases r1
          obtain ⟨pa, rfl, hp⟩ := Rep.path r2
          exact ⟨_, pa, _, _, rfl, h, hp, rfl, t, by rw [hl]; simp⟩
  | cut p =>
    cases r with
    | tup h t => cases t with
      | cons r1 t => cases t with
        | cons r2 t =>
          have hl := t.length
          cases r1
          obtain ⟨pa, rfl, hp⟩ := Rep.path r2
          exact ⟨_, pa, _, _, rfl, h, hp, rfl, t, by rw [hl]; simp⟩
  | put p n m =>
    cases r with
    | tup h t => cases t with
      | cons r1 t => cases t with
        | cons r2 t =>
          have hl := t.length
          cases r1
          obtain ⟨pa, rfl, hp⟩ := Rep.path r2
          exact ⟨_, pa, _, _, rfl, h, hp, rfl, t, by rw [hl]; simp⟩
theorem first_cut (x y : V) (r : List V) : cutV (x :: y :: r) none (some 1) = [x] := cut_to (x :: y :: r) 1
theorem rest_cut (x y : V) (r : List V) : cutV (x :: y :: r) (some 2) none = r := cut_from (x :: y :: r) 2
theorem first_not (x y : V) (r : List V) : ¬ (HT.sIx (x :: y :: r).length 0 none = 0 ∧ HT.sIx (x :: y :: r).length (x :: y :: r).length (some 1) = (x :: y :: r).length) := by
  rintro ⟨_, h⟩
  have e : HT.sIx (x :: y :: r).length (x :: y :: r).length (some ((1 : Nat) : Int)) = min 1 (x :: y :: r).length := HT.sIx_nat _ _ _
  rw [show ((1 : Nat) : Int) = 1 from rfl] at e
  rw [e] at h
  simp only [List.length_cons] at h
  omega
theorem rest_not (x y : V) (r : List V) : ¬ (HT.sIx (x :: y :: r).length 0 (some 2) = 0 ∧ HT.sIx (x :: y :: r).length (x :: y :: r).length none = (x :: y :: r).length) := by
  rintro ⟨h, _⟩
  have e : HT.sIx (x :: y :: r).length 0 (some ((2 : Nat) : Int)) = min 2 (x :: y :: r).length := HT.sIx_nat _ _ _
  rw [show ((2 : Nat) : Int) = 2 from rfl] at e
  rw [e] at h
  simp only [List.length_cons] at h
  omega
/-! ### the steps with their paths copied -/
noncomputable def teCopy (K : PySem.W.Frag) : TE := tOp (rCatT K) (tOp (rCatT K) (tSl (rSlT K) (tVar 0) tNoPart (tPart (tC (.int 1)))) (tTup (tCons (tCB (fun xs H Q => ∃ p ys, xs = [V.ref p] ∧ (SqL K H p ys ∨ SqT K H p ys) ∧ ∀ l, H l = none → Q (.ref l) (upd H l (.lst ys))) (tCons (tOp (rIxT K) (tVar 0) (tC (.int 1))) tNil)) tNil))) (tSl (rSlT K) (tVar 0) (tPart (tC (.int 2))) tNoPart)
theorem copy_one {K : PySem.W.Frag} {G H : Hp} {x : V} {st : Stp} {Q : VK} (sm : Same G H) (r : Rep G x st.d) (k : ∀ (G' H' : Hp) (y : V), Ext G H G' H' → Rep G' y st.d → Q y H') : teCopy K [some x] H Q := by
  have big := line_big
  obtain ⟨sa, pq, restV, ds, rfl, hsa, hpq, hds, rrest, hrl⟩ := step_parts r
  refine ⟨_, rfl, _, rfl, sa, _, rfl, SqT.of (sm _ _ hsa), first_not _ _ _, fun c1 k1 => ?_⟩
  rw [first_cut]
  have x1 : Ext G H G (upd H c1 (.tup [V.str st.kind])) := Ext.tmp sm k1
  refine ⟨_, rfl, sa, _, _, _, rfl, rfl, SqT.of (x1.gh _ _ hsa), atI_nat (j := 1) rfl, pq, _, rfl, .inl (SqL.of (x1.gh _ _ hpq)), fun c2 k2 => ⟨by show 1 ≤ sizeLine; decide, fun c3 k3 => ?_⟩⟩
  have y2 := Ext.add (o := .lst (st.path.map V.int)) x1.gh k2
  have x2 := x1.trans y2
  have x3 := x2.trans (Ext.tmp (o := .tup [V.ref c2]) x2.gh k3)
  refine ⟨c1, c3, _, _, rfl, rfl, SqT.of (same_upd k3 _ _ (same_upd k2 _ _ upd_same)), SqT.of upd_same, (by simp), (by show 1 + 1 ≤ sizeLine; decide), (fun z => by cases z), fun _ c4 k4 => ?_⟩
  have y4 := Ext.add (o := .tup ([V.str st.kind] ++ [V.ref c2])) x3.gh k4
  have x4 := x3.trans y4
  have sG : Same G (upd (upd G c2 (.lst (st.path.map V.int))) c4 (.tup ([V.str st.kind] ++ [V.ref c2]))) := y2.g.trans y4.g
  refine ⟨_, rfl, _, rfl, sa, _, rfl, SqT.of (x4.gh _ _ (sG _ _ hsa)), rest_not _ _ _, fun c5 k5 => ?_⟩
  rw [rest_cut]
  have x5 := x4.trans (Ext.tmp (o := .tup restV) x4.gh k5)
  have hc4 := same_upd (o := .tup restV) k5 _ _ (upd_same (H := upd (upd (upd H c1 (.tup [V.str st.kind])) c2 (.lst (st.path.map V.int))) c3 (.tup [V.ref c2])) (a := c4) (o := .tup ([V.str st.kind] ++ [V.ref c2])))
  refine ⟨c4, c5, _, _, rfl, rfl, SqT.of hc4, SqT.of upd_same, (by simp), (by show 2 + restV.length ≤ sizeLine; omega), fun hz => ?_, fun hz c6 k6 => ?_⟩
  · subst hz
    cases rrest
    refine k _ _ _ x5 ?_
    rw [hds]
    exact .tup upd_same (.cons (.str _) (.cons (.lst (y4.g _ _ upd_same) (ints_reps _)) .nil))
  · have y6 := Ext.add (o := .tup ([V.str st.kind] ++ [V.ref c2] ++ restV)) x5.gh k6
    refine k _ _ _ (x5.trans y6) ?_
    rw [hds]
    exact .tup upd_same (.cons (.str _) (.cons (.lst (y6.g _ _ (y4.g _ _ upd_same)) (ints_reps _)) (rrest.mono (sG.trans y6.g))))
theorem copy_all {K : PySem.W.Frag} {G H : Hp} {u : V} {sts : List Stp} {σ : L2.St} {j : Nat} {Q : VK} (hj : σ[j]? = some (some u)) (sm : Same G H) (r : Rep G u (.lst (sts.map Stp.d))) (hl : sts.length ≤ 1000)
    (k : ∀ (G' H' : Hp) (y : V), Ext G H G' H' → Rep G' y (.lst (sts.map Stp.d)) → Q y H') : tComp (iList K (tVar j)) (gName 0) (teCopy K) 1 σ H Q := by
  have big := line_big
  cases r with
  | @lst ua us _ hua rus =>
  have hul := rus.length
  rw [List.length_map] at hul
  refine ⟨_, hj, ua, rfl, ⟨_, SqL.of (sm _ _ hua)⟩, fun acc hacc => ?_⟩
  have na : G acc = none := sm.none hacc
  refine ⟨fun i m H2 ys => ∃ G2 : Hp, m = us.length - i ∧ i ≤ us.length ∧ ys.length = i ∧ Ext G H G2 H2 ∧ G2 acc = none ∧ Reps G2 ys ((sts.take i).map Stp.d), ⟨_, G, rfl, Nat.zero_le _, rfl, Ext.tmp sm hacc, na, .nil⟩, ?_⟩
  rintro i m H2 ys ⟨G2, rfl, hi, hyl, x, nA, rys⟩ hya
  by_cases hlt : i < us.length
  · refine .inr ⟨⟨us, us[i], SqL.of (x.h _ _ (sm _ _ hua)), List.getElem?_eq_getElem hlt⟩, by omega, fun x0 H3 y => ?_⟩
    obtain ⟨rfl, hy⟩ := y
    have e0 := hy us (SqL.of (x.h _ _ (sm _ _ hua)))
    have his : i < sts.length := by omega
    obtain ⟨d, hd, rd⟩ := rus.at e0
    rw [List.getElem?_map, List.getElem?_eq_getElem his] at hd
    cases hd
    refine copy_one (st := sts[i]) x.gh (rd.mono x.g) fun G4 H4 y4 x4 r4 => ?_
    have hya4 := x4.h _ _ hya
    have nA4 := x4.keep hya nA
    refine ⟨hya4, us.length - (i + 1), by omega, G4, rfl, hlt, by rw [List.length_append, List.length_singleton, hyl], (x.trans x4).mut nA4 hacc, nA4, ?_⟩
    rw [List.take_succ_eq_append_getElem his, List.map_append]
    exact (rys.mono x4.g).append (.cons r4 .nil)
  · obtain rfl : i = us.length := by omega
    refine .inl ⟨⟨us, SqL.of (x.h _ _ (sm _ _ hua)), Nat.le_refl _⟩, k _ _ _ (x.freeze nA hacc hya) (.lst upd_same ?_)⟩
    rw [hul, List.take_length] at rys
    exact rys.mono (same_upd nA)
end TT
namespace TT
open PySem PySem.Spec PyProof.Rows L2
section
variable {X : Cx}
theorem ps_setComp {elt tg iter : Expr} {scope : Scope} {pos pos' pos2 : Pos} {N : List Str} {wi : TI} {g : TG} {te : TE} {k : Nat} {nm : Str} (hN : X.N.Nodup) (hk' : X.N[k]? = some nm) (hnm : Loc X.env.scope nm) (hc : X.calm = true) (hi : PI X tg iter wi) (hfree : ∀ y ∈ scope.names, y.2 ≠ .free) (hcell : ∀ y ∈ scope.names, y.2 ≠ .cell) (hkind : scope.kind = .function)
    (hnames : ∀ y ∈ scope.names, y.2 = .local → scope.names.lookup y.1 = some .local) (hg : ∀ C s2 H2 fp, PG (compX X scope C N s2 H2 fp) tg g) (he : ∀ C s2 H2 fp, PE (compX X scope C N s2 H2 fp) elt te)
    (hs : ∀ x, foldedSetIterable iter X.env x = pure x := by intro _; rfl) (hsw : swapsWith (.ListComp elt [⟨tg, iter, [], 0⟩] scope pos) (some (.Name nm pos')) pos2.line X.env = pure true := by rfl)
    (hf : X.fn nm = true ∨ X.env.scope.names.lookup nm = some .local := by first | exact .inl rfl | exact .inr rfl | assumption) : PS X (.Assign [.Name nm pos'] (.ListComp elt [⟨tg, iter, [], 0⟩] scope pos) pos2) (tAsg (tComp wi g te N.length) (gName k)) := by
  intro pins s σ H De I h
  rw [exec_Assign_Name_used _ _ _ _ hsw]
  refine wpAny_bind (wpAny_standAt (wpAny_bind ?_))
  rw [arm_evalThenUse_ListComp]
  refine wpAny_bind ?_
  refine thn (Q := fun _ s' => SP X pins De .next s') ?_ fun _ s' q => wpAny_pure (wpAny_pure q)
  refine wpAny_comprehension_free (cl := []) (use := some (assign (.Name nm pos') X.env)) rfl hs (closureFor_none hfree) hkind hnames (thn (hi pins s σ H _ I h) fun v s1 h1 => thn h1 fun itv s2 h2 => ?_)
  obtain ⟨it, fp, tn, J, H2, rfl, I2, T, st2, f2, q⟩ := h2
  have hlt : ∀ b ∈ fp, b < s2.heap.objs.size := fun b hb => let ⟨o, e, _⟩ := T.obj _ _ st2 b hb; Heap.lt_size e
  refine wpAny_newObj_type (wpAny_newFunctionEnv hcell (by intro y hy; simp at hy) (fun h1 hns hsb => ?_) hkind)
  obtain ⟨W, ⟨m0, w0⟩, turn⟩ := q s2.heap.objs.size I2.fresh
  have hCs : (s2.heap.push { cls := .type "list", dict := none, data := .seq ([] : List Value).toArray }).objs.size = s2.heap.objs.size + 1 := Heap.size_push ..
  dsimp only at hns hsb ⊢
  generalize hC : (s2.heap.push { cls := .type "list", dict := none, data := .seq ([] : List Value).toArray }).objs.size = C at hns hsb hCs ⊢
  have leC : s2.heap.objs.size ≤ C := by omega
  have old : ∀ b o, s2.heap.get? b = some o → h1.get? b = some o := fun b o e => by
    have hb := Heap.lt_size e
    exact hsb.extBut b o (Nat.ne_of_lt (Nat.lt_of_lt_of_le hb leC)) (Heap.get?_push_of_some _ (Heap.get?_push_of_some _ e))
  have accAt : h1.get? s2.heap.objs.size = some { cls := .type "list", dict := none, data := .seq ([] : List Value).toArray } :=
    hsb.extBut _ _ (Nat.ne_of_lt (by omega)) (Heap.get?_push_of_some _ (Heap.get?_push_size _ rfl))
  have hCn : H2 C = none := I2.hok.fresh leC
  have ok0 := compOk (N := N) (C := C) I2 hc hkind hfree hcell leC f2 hlt
  have I4 : Inv (compX X scope C N s2 H2 fp) [] (List.replicate N.length none) (upd H2 s2.heap.objs.size (.lst [])) { s2 with heap := h1, toks := s2.toks + ([] : List (Str × Value)).length } := by
    refine ⟨ok0, rfl, I2.bare, Un.laid old (Nat.le_refl _) I2.fresh, ⟨_, hns, fun i x v _ e => ?_⟩, (fun x c e => (nomatch e)), ?_, (fun x c e => (nomatch e)), (fun p hp => (nomatch hp)), ?_, ?_⟩
    · exfalso
      rw [List.getElem?_replicate] at e
      split at e <;> simp at e
    · show upd H2 s2.heap.objs.size (.lst []) C = none
      rw [upd_ne (Nat.ne_of_gt (by omega))]
      exact hCn
    · exact I2.hok.laid old (Nat.le_refl _) ⟨Nat.zero_le _, [], 0, .nil, accAt⟩
    · simp [compX]
  have st4 : tn 0 h1 := T.keep _ _ _ st2 fun b _ o e => old b o e
  have fr4 : ∀ b ∈ fp, upd H2 s2.heap.objs.size (.lst []) b = none := fun b hb => by
    rw [upd_ne (Nat.ne_of_lt (hlt b hb))]
    exact (f2 b hb).1
  have stat : ∀ {pn : List (Addr × Obj)} {H' : Hp}, (∀ p ∈ pn, p.1 ∉ fp) → (∀ b ∈ fp, H' b = none) → ∀ b ∈ fp, FpOk (compX X scope C N s2 H2 fp) pn H' b := fun hpn hn b hb =>
    ⟨hn b hb, Nat.ne_of_lt (Nat.lt_of_lt_of_le (hlt b hb) leC), ok0.exfs b hb, .inl hb, (fun x c e => (nomatch e)), fun p hp z => hpn p hp (z ▸ hb)⟩
  have loop : ∀ s4 : Shared, s4 = { s2 with heap := h1, toks := s2.toks + ([] : List (Str × Value)).length } →
      codeAny (model X.prog X.w) X.A (.compLoop (.ListComp elt [⟨tg, iter, [], 0⟩] scope pos) 0 (.ref it) (.ref s2.heap.objs.size) (compEnvC scope [] C X.env))
        (compPost (model X.prog X.w) X.A X.xe (some (assign (.Name nm pos') X.env)) (fun _ s' => SP X pins De .next s') (.ref s2.heap.objs.size) C) s4 := by
    rintro s4 rfl
    refine codeAny_loop rfl (fun n s' => ∃ i σ' H' ys, Inv (compX X scope C N s2 H2 fp) [] σ' H' s' ∧ tn i s'.heap ∧ (∀ b ∈ fp, H' b = none) ∧ H' s2.heap.objs.size = some (.lst ys) ∧ W i n H' ys) ?_ m0 ⟨0, _, _, [], I4, st4, fr4, upd_same, w0⟩
    rintro n s' ⟨i, σ', H', ys, I', st', fr', ha', w'⟩
    show wpAny _ _ ((compTurn (.ListComp elt [⟨tg, iter, [], 0⟩] scope pos) 0 (.ref it) (.ref s2.heap.objs.size) (compEnvC scope [] C X.env)).onRaise (fun x => do noteFrame x (compEnvC scope [] C X.env); theTreesLotGoes x)) _ _ s'
    refine wpAny_noted ?_
    rw [compTurn_list1]
    refine wpAny_bind (wpAny_standAt (wpAny_bind ?_))
    rcases turn i n H' ys w' ha' with ⟨stop, qn⟩ | ⟨go, hz, step⟩
    · refine thn (T.done (compX X scope C N s2 H2 fp) rfl rfl rfl hc i [] s' σ' H' _ I' (stat ((fun p hp => (nomatch hp))) fr') st' stop) fun r s5 ⟨hr, I5⟩ => ?_
      subst hr
      refine wpAny_pure ?_
      obtain ⟨m5, hn5, _⟩ := I5.loc
      have fin : Inv X pins σ H' s5 := I2.call' (ch := fp) I5.os I5.base I5.hok I5.bare fun b hb => let ⟨_, g1, _, g3, g4, g5⟩ := f2 b hb; ⟨g3, g1, g4, g5⟩
      refine wpAny_assign_Name (store_ok2 (v := .ref s2.heap.objs.size) fin hN hk' hnm rfl (fun s6 I6 ⟨a6, sb6, ha6⟩ => ?_) hf)
      have neC : C ≠ a6 := by
        intro z
        rcases ha6 with e | e
        · exact absurd (Nat.lt_of_lt_of_le I2.lt leC) (by rw [z, e]; exact Nat.lt_irrefl _)
        · obtain ⟨v, q⟩ := I2.cell _ _ e
          exact absurd (Nat.lt_of_lt_of_le q.lt leC) (by rw [z]; exact Nat.lt_irrefl _)
      refine ⟨m5, hn5.sameBut sb6 neC, fun h' sb => ⟨_, H', ?_, qn⟩⟩
      have hCn' : H' C = none := I5.free
      refine I6.turned (t' := s6.toks) (it := C) (fun b o hb e => (sb.2 b hb).trans e) hCn' (Nat.ne_of_gt (Nat.lt_of_lt_of_le I2.lt leC)) (.inr (Nat.le_trans I2.sz leC)) (fun y c e z => ?_) (fun q hq z => ?_)
      · obtain ⟨v, q⟩ := I2.cell y c e
        exact absurd (Nat.lt_of_lt_of_le q.lt leC) (by rw [z]; exact Nat.lt_irrefl _)
      · exact absurd (Nat.lt_of_lt_of_le (Heap.lt_size (I2.pin q hq).1) leC) (by rw [z]; exact Nat.lt_irrefl _)
    · refine thn (T.item (compX X scope C N s2 H2 fp) rfl rfl rfl hc i [] s' σ' H' _ I' (stat ((fun p hp => (nomatch hp))) fr') st' go) fun r s5 ⟨u, hr, h5⟩ => ?_
      subst hr
      refine wpAny_bind (thn h5 fun _ s6 ⟨x, H6, I6, r6, y6, st6, fr6⟩ => ?_)
      have I6' := (I6.weak (σ' := List.replicate N.length none) (by rw [List.length_replicate]; exact I6.len.symm) (fun j v e => by
        exfalso
        rw [List.getElem?_replicate] at e
        split at e <;> simp at e)).pinned (stat ((fun p hp => (nomatch hp))) fr6) (T.obj _ _ st6)
      refine wpAny_bind (wpAny_mono (hg C s2 H2 fp _ s6 _ H6 x u _ I6' r6 (step x H6 y6)) (fun _ s7 ⟨σ7, H7, I7, q7⟩ => ?_) fun _ _ z => False.elim z)
      refine wpAny_bind (wpAny_bind (wpAny_mono (he C s2 H2 fp _ s7 σ7 H7 _ I7 q7) (fun v8 s8 ⟨y, H8, I8, r8, ha8, m8, hm8, w8⟩ => ?_) fun _ _ z => False.elim z))
      refine wpAny_bind (wpAny_mono (mt_append (X := compX X scope C N s2 H2 fp) _ s8 σ7 H8 (.ref s2.heap.objs.size) [y] _ [v8] (fun _ H9 => H9 = upd H8 s2.heap.objs.size (.lst (ys ++ [y]))) I8 rfl (.cons r8 .nil) ⟨_, ys, y, rfl, rfl, ha8, hz, rfl⟩) (fun _ s9 ⟨_, H9, I9, _, e9⟩ => ?_) fun _ _ z => False.elim z)
      subst e9
      refine wpAny_pure (wpAny_pure ⟨rfl, m8, hm8, i + 1, σ7, _, ys ++ [y], I9.unpinned, T.keep _ _ _ st6 fun b hb o e => (I9.pin (b, o) (List.mem_append_right _ (List.mem_append_right _ (mem_pinsAt hb e)))).1, fun b hb => ?_, upd_same, w8⟩)
      obtain ⟨o, e, _⟩ := T.obj _ _ st6 b hb
      exact (I9.pin (b, o) (List.mem_append_right _ (List.mem_append_right _ (mem_pinsAt hb e)))).2.1
  exact codeAny_compStart_list (loop _ rfl) (T.self _ 0 _ _ _ st4 (loop _ rfl))
end
end TT
namespace PySem
open Sem (wp)
section
variable {prog : Program} {w : World} {A : Around} {E : Value → Shared → Prop} {s : Shared}
theorem F.lri_no_len : typeLookup (.type "list_reverseiterator") "__len__" = pure none := by rw [typeLookup_type, builtinLookup_eq_fast]; kernel_rfl
theorem F.lri_hint : typeLookup (.type "list_reverseiterator") "__length_hint__" = pure (some (.builtin "list_reverseiterator.__length_hint__")) := by rw [typeLookup_type, builtinLookup_eq_fast]; kernel_rfl
theorem hint_rev {it l : Addr} {i : Int} {Q : Bool → Shared → Prop} (hit : s.heap.IsRevIter it l i) (h : Q false s) : wpAny (model prog w) A (Builtin.List.listLengthHint (.ref it)) Q E s := by
  unfold Builtin.List.listLengthHint
  refine wpAny_bind (wpAny_specialOf hit.typeIs F.lri_no_len ?_)
  refine wpAny_bind (wpAny_specialOf hit.typeIs F.lri_hint ?_)
  generalize hid : ("list_reverseiterator.__length_hint__" : String) = id0
  wp_delta
  rw [show splitId id0 = some ("list_reverseiterator", "__length_hint__") from by subst hid; decide +kernel]
  subst hid
  refine wpAny_bind (wpAny_isInstance (T := "list_reverseiterator") (b := true) hit.typeIs (by rw [isSubtype_type]; kernel_rfl) ?_)
  refine wpAny_ite_split (fun hab => absurd hab (by decide)) (fun _ => ?_)
  refine wpAny_ite_split (fun _ => ?_) (fun hab => absurd (by decide +kernel) hab)
  refine wpAny_ite_split (fun hab => absurd hab (by decide +kernel)) (fun _ => ?_)
  exact wpAny_pure h
theorem extend_rev {R : Result → Shared → Prop} {it l : Addr} {items : Array Value} (hh : A.handled = none) (hit : s.heap.IsRevIter it l ((items.size : Int) - 1)) (hl : s.heap.IsList l items) (hsz : items.size ≤ sizeLine)
    (S : Addr) (res : Value) (c₀ : Nat) (hS : s.heap.get? S = some { cls := .type "list", data := .seq #[] c₀ }) (hSl : S ≠ l)
    (hR : ∀ h' tk acc' c', (∀ b o, b ≠ S → b ≠ it → s.heap.get? b = some o → h'.get? b = some o) → h'.get? S = some { cls := .type "list", dict := none, data := .seq acc' c', slots := #[] } →
      ItemsOf (fun i v => items[items.size - 1 - i]? = some v) acc' items.size → R (.ok (.ret res)) { s with heap := h', toks := tk }) :
    wpAny (model prog w) A.in1 (Builtin.List.listExtendWith (.ref S) (.ref it) res)
      (fun fin s' => match fin with | .done f => R (.ok f) s' | .again c' => c'.quiet = true ∧ codeAny (model prog w) A c' R s') (fun e s' => R (.error e) s') s := by
  obtain ⟨oi, hoi, hci, hdi⟩ := id hit
  have hSi : S ≠ it := fun e => by
    rw [e, hoi] at hS
    injection hS with e1
    rw [e1] at hci
    exact absurd (show Value.type "list" = Value.type "list_reverseiterator" from hci) (by decide)
  have hli : l ≠ it := fun e => by
    obtain ⟨o2, h2, c2, _⟩ := hl
    rw [e, hoi] at h2
    injection h2 with e1
    rw [e1, c2] at hci
    exact absurd hci (by decide)
  have hSf : S ∉ [it, l] := fun hm => by
    rcases List.mem_cons.mp hm with e | e
    · exact hSi e
    · exact hSl (List.mem_singleton.mp e)
  unfold Builtin.List.listExtendWith
  refine wpAny_bind (wpAny_typeOf (T := "list_reverseiterator") hit.typeIs ?_)
  have h1 : Builtin.List.listSameRef (.ref S) (.ref it) = false := by simp [Builtin.List.listSameRef, hSi]
  have h2 : (Value.type "list_reverseiterator" == Value.type "list") = false := by decide
  have h3 : (Value.type "list_reverseiterator" == Value.type "tuple") = false := by decide
  simp only [h1, h2, h3, Bool.or_false, Bool.false_eq_true, if_false]
  refine wpAny_bind (wpAny_pyIter_revIter hit ?_)
  refine wpAny_bind (wpAny_holding (hint_rev hit ?_))
  refine wpAny_ite_split (fun hab => absurd hab (by decide +kernel)) (fun _ => ?_)
  have hst : items.size - items.size ≤ items.size := by omega
  refine wpAny_pure ⟨plainId_quiet F.plain_extend_loop _, codeAny_extend_loopS ((Walks.listRev (prog := prog) (w := w) (A := A.in1) hh it l hli items).toS) hsz _ hSf _ items.size 0 _ _ _ rfl (Nat.zero_le _) ⟨Nat.zero_le _, by simpa using hit, hl⟩ hS (ItemsOf.nil _) fun s' acc' c' hm hS' hacc => ?_⟩
  rw [Moved.eq_with hm]
  refine hR s'.heap s'.toks acc' c' (fun b ob hb hb2 e => hm.heap b ob (fun hmem => ?_) e) hS' hacc
  rcases List.mem_cons.mp hmem with e' | hmem
  · exact hb e'
  · exact hb2 (List.mem_singleton.mp hmem)
theorem list_init_rev {R : Result → Shared → Prop} {it l : Addr} {items : Array Value} (hh : A.handled = none) (hit : s.heap.IsRevIter it l ((items.size : Int) - 1)) (hl : s.heap.IsList l items) (hsz : items.size ≤ sizeLine)
    (S : Addr) (hS : s.heap.get? S = some { cls := .type "list", data := .seq #[] }) (hSl : S ≠ l)
    (hR : ∀ h' tk acc' c', (∀ b o, b ≠ S → b ≠ it → s.heap.get? b = some o → h'.get? b = some o) → h'.get? S = some { cls := .type "list", dict := none, data := .seq acc' c', slots := #[] } →
      ItemsOf (fun i v => items[items.size - 1 - i]? = some v) acc' items.size → R (.ok (.ret .none)) { s with heap := h', toks := tk }) :
    wpAny (model prog w) A.in1 (Builtin.«list.__init__» ⟨[.ref S, .ref it], []⟩)
      (fun fin s' => match fin with | .done f => R (.ok f) s' | .again c' => c'.quiet = true ∧ codeAny (model prog w) A c' R s') (fun e s' => R (.error e) s') s := by
  show wpAny _ _ (do let old ← Builtin.List.listItems (.ref S); Builtin.List.listUpdate (.ref S) (fun _ => #[]); letGo old.toList.reverse; Builtin.List.listExtendWith (.ref S) (.ref it) .none) _ _ s
  have hSi : S ≠ it := fun e => by
    obtain ⟨oi, hoi, hci, hdi⟩ := hit
    rw [e, hoi] at hS
    injection hS with e1
    rw [e1] at hci
    exact absurd (show Value.type "list" = Value.type "list_reverseiterator" from hci) (by decide)
  refine wpAny_bind ?_
  unfold Builtin.List.listItems
  refine wpAny_bind (wpAny_seqItems hS rfl (wpAny_pure ?_))
  show wpAny _ _ (updateSeq S (fun _ => #[]) >>= fun _ => letGo (#[] : Array Value).toList.reverse >>= fun _ => Builtin.List.listExtendWith (.ref S) (.ref it) .none) _ _ s
  refine wpAny_bind (wpAny_updateSeq hS rfl ?_)
  have hS₂ := Heap.get?_update_self (Obj.mapSeq (fun _ => (#[] : Array Value))) hS rfl
  have oth : ∀ b o, b ≠ S → s.heap.get? b = some o → (s.heap.update S (Obj.mapSeq (fun _ => (#[] : Array Value)))).get? b = some o :=
    fun b o hb e => (Heap.get?_update_other _ _ (Ne.symm hb)).trans e
  refine wpAny_bind (wpAny_letGo ?_)
  refine extend_rev hh (hit.at fun o e => oth it o (Ne.symm hSi) e) (hl.at fun o e => oth l o (Ne.symm hSl) e) hsz S .none _ hS₂ hSl fun h' tk acc' c' hk hS' hacc => ?_
  exact hR h' tk acc' c' (fun b o hb hb2 e => hk b o hb hb2 (oth b o hb e)) hS' hacc
theorem call_list_rev {Q : Value → Shared → Prop} {it l : Addr} {items : Array Value} (hh : A.handled = none) (hit : s.heap.IsRevIter it l ((items.size : Int) - 1)) (hl : s.heap.IsList l items) (hsz : items.size ≤ sizeLine)
    (hQ : ∀ h' tk acc' c', (∀ b o, b ≠ it → s.heap.get? b = some o → h'.get? b = some o) →
      h'.get? s.heap.objs.size = some { cls := .type "list", dict := none, data := .seq acc' c', slots := #[] } → ItemsOf (fun i v => items[items.size - 1 - i]? = some v) acc' items.size → Q (.ref s.heap.objs.size) { s with heap := h', toks := tk }) :
    wpAny (model prog w) A (call (.type "list") [.ref it]) Q E s := by
  refine callType_codes (Q₁ := fun obj s₁ => obj = .ref s.heap.objs.size ∧ s₁ = { s with heap := s.heap.push { cls := .type "list", data := .seq #[] } }) F.called_list (F.typeCall_list_1 _) F.entry_list_init
    (code_list_new _ ⟨rfl, rfl⟩) fun obj s₁ h₁ => ?_
  obtain ⟨rfl, rfl⟩ := h₁
  have hS : (s.heap.push { cls := .type "list", data := .seq #[] }).get? s.heap.objs.size = some { cls := .type "list", data := .seq #[] } := Heap.get?_push_size _ rfl
  have hSl : s.heap.objs.size ≠ l := fun e => by
    obtain ⟨o2, h2, _⟩ := hl
    exact absurd (Heap.lt_size h2) (by rw [← e]; exact Nat.lt_irrefl _)
  refine ⟨⟨_, hS, rfl⟩, F.args_list_init_2 _ _, list_init_rev (A := A.in1) hh (hit.at fun o e => Heap.get?_push_of_some _ e) (hl.at fun o e => Heap.get?_push_of_some _ e) hsz _ hS hSl fun h' tk acc' c' hk hS' hacc => ?_⟩
  exact ⟨rfl, hQ h' tk acc' c' (fun b o hb e => hk b o (Nat.ne_of_lt (Heap.lt_size e)) hb (Heap.get?_push_of_some _ e)) hS' hacc⟩
end
end PySem
namespace TT
open PySem PySem.Spec PyProof.Rows L2
theorem vals_app {xs ys : List V} {us ws : List Value} (a : Vals xs us) (b : Vals ys ws) : Vals (xs ++ ys) (us ++ ws) := by
  induction a with
  | nil => exact b
  | cons r _ ih => exact .cons r ih
theorem vals_rev {xs : List V} {us : List Value} (a : Vals xs us) : Vals xs.reverse us.reverse := by
  induction a with
  | nil => exact .nil
  | cons r _ ih =>
    rw [List.reverse_cons, List.reverse_cons]
    exact vals_app ih (.cons r .nil)
theorem items_rev {its : List Value} {acc : Array Value} (h : ItemsOf (fun i v => its.toArray[its.toArray.size - 1 - i]? = some v) acc its.toArray.size) : acc.toList = its.reverse := by
  obtain ⟨h1, h2⟩ := h
  have h1 : acc.size = its.length := by rw [h1]; exact List.size_toArray ..
  refine List.ext_getElem? fun i => ?_
  by_cases hi : i < its.length
  · have hlt : i < acc.size := by omega
    have e := h2 i acc[i] (Array.getElem?_eq_getElem hlt)
    rw [List.getElem?_reverse hi, Array.getElem?_toList, Array.getElem?_eq_getElem hlt]
    simpa using e.symm
  · rw [List.getElem?_eq_none (by rw [Array.length_toList]; omega), List.getElem?_eq_none (by rw [List.length_reverse]; omega)]
section
variable {X : Cx}
noncomputable def tListRev (K : PySem.W.Frag) (ta : TA) : TE := fun σ H Q => ta σ H fun vs H1 => ∃ a xs, vs = [.ref a] ∧ SqL K H1 a xs ∧ ∀ l, H1 l = none → Q (.ref l) (upd H1 l (.lst xs.reverse))
theorem pe_listRev {e : Expr} {ta : TA} {p q pos pos2 : Pos} (hg : Gl X "reversed") (hm : X.mg "reversed" = none) (hg2 : Gl X "list") (hm2 : X.mg "list" = none) (hd : X.A.handled = none) (ha : PA X [e] ta) (hs : starEach [e] X.env = [(false, eval e X.env)] := by rfl)
    (hs2 : starEach [.Call (.Name "reversed" p) [e] [] pos] X.env = [(false, eval (.Call (.Name "reversed" p) [e] [] pos) X.env)] := by rfl) :
    PE X (.Call (.Name "list" q) [.Call (.Name "reversed" p) [e] [] pos] [] pos2) (tListRev X.K ta) := by
  intro pins s σ H Q I h
  refine wpAny_Call_Name_kw (ld_blt I hg2 hm2 bt_list ?_)
  refine PyProof.Rows.callWith_type1 ?_ hs2 rfl
  rw [hs2]
  show wpAny _ _ (spliced ((false, eval (.Call (.Name "reversed" p) [e] [] pos) X.env) :: [])) _ _ s
  refine Calls.spliced_cons ?_
  refine Call_ (ld_blt I hg hm bt_reversed (PyProof.Rows.callWith_type1 (thn (ha pos pins s σ H _ I h) fun us s1 ⟨vs, H1, I1, r1, q1⟩ => ?_) hs rfl))
  obtain ⟨a, xs, e, hq, q⟩ := q1
  subst e
  cases r1 with
  | cons r rr =>
    cases rr
    cases r
    obtain ⟨its, rv, pl, hz⟩ := I1.list hq
    have hl := rv.length
    refine call_reversed_list pl.isList (Calls.spliced_nil ?_)
    have hit : (s1.heap.push (revObj a ((its.toArray.size : Int) - 1))).IsRevIter s1.heap.objs.size a ((its.toArray.size : Int) - 1) := ⟨_, Heap.get?_push_size _ rfl, rfl, rfl⟩
    refine call_list_rev hd hit (pl.isList.at fun o e => Heap.get?_push_of_some _ e) (by rw [List.size_toArray]; omega) fun h' tk acc' c' kp e hacc => ?_
    have el := items_rev hacc
    have rr := vals_rev rv
    rw [← el] at rr
    have kp1 : ∀ b u, s1.heap.get? b = some u → h'.get? b = some u := fun b u eb => kp b u (Nat.ne_of_lt (Heap.lt_size eb)) (Heap.get?_push_of_some _ eb)
    have hfr : H1 (s1.heap.push (revObj a ((its.toArray.size : Int) - 1))).objs.size = none := I1.hok.fresh (by rw [Heap.size_push]; omega)
    refine ⟨.ref (s1.heap.push (revObj a ((its.toArray.size : Int) - 1))).objs.size, _, I1.laid (t' := tk) (o := .lst xs.reverse) kp1 (by rw [Heap.size_push]; omega) (show ObjOk X.prog X.w _ h' _ (.lst xs.reverse) from ⟨by rw [List.length_reverse]; exact hz, acc'.toList, c', rr, by simpa using e⟩), rfl, q _ hfr⟩
end
end TT
namespace TT
open PySem L2
theorem fold_goal {g : Prop} (h : ∀ Zg : Prop, (g → Zg) → Zg) : g := h g id
/-- what comes behind a statement is folded away -/
theorem seq_gen {a b : TS} {D : Ends} {σ : L2.St} {H : Hp} (h : ∀ R : Ends, (∀ σ' H', b D σ' H' → R.nx σ' H') → (∀ v H', D.rt v H' → R.rt v H') → a R σ H) : tSeq a b D σ H := h { D with nx := b D } (fun _ _ z => z) (fun _ _ z => z)
theorem seqE {a b : TS} {D : Ends} {σ : L2.St} {H : Hp} (h : ∀ R : Ends, (∀ σ' H', D.nx σ' H' → R.nx σ' H') → (∀ v H', D.rt v H' → R.rt v H') → tSeq a b R σ H) : tSeq a b D σ H := h D (fun _ _ z => z) (fun _ _ z => z)
theorem for_listG {K : PySem.W.Frag} {a : Addr} {xs : List V} {g : TG} {tb : TS} {D : Ends} {σ : L2.St} {H : Hp} (Pv : Nat → L2.St → Hp → Prop) (h0 : Pv 0 σ H) (hl : ∀ i σ H, i ≤ xs.length → Pv i σ H → SqL K H a xs)
    (hs : ∀ i x σ H, xs[i]? = some x → Pv i σ H → ∀ R : Ends, (∀ σ' H', Pv (i + 1) σ' H' → R.nx σ' H') → (∀ v H', D.rt v H' → R.rt v H') → g x σ H fun σ2 H2 => tb R σ2 H2) (hd : ∀ σ H, Pv xs.length σ H → D.nx σ H) :
    ∃ W : Nat → Nat → L2.St → Hp → Prop, (∃ m, W 0 m σ H) ∧ ∀ i m σ H, W i m σ H →
      ((Itl K a).stop i H ∧ D.nx σ H) ∨ ((Itl K a).go i H ∧ ∃ N : L2.St → Hp → Prop, (∀ σ' H', N σ' H' → ∃ m', m' < m ∧ W (i + 1) m' σ' H') ∧ ∀ x H', (Itl K a).yld i H x H' → g x σ H' fun σ2 H2 => tb { D with nx := N, ct := N, bk := D.nx } σ2 H2) :=
  for_list Pv h0 hl (fun i x σ H hi hp => hs i x σ H hi hp _ (fun _ _ z => z) (fun _ _ z => z)) hd
theorem for_rangeG {lo : Int} {n : Nat} {g : TG} {tb : TS} {D : Ends} {σ : L2.St} {H : Hp} (Pv : Nat → L2.St → Hp → Prop) (h0 : Pv 0 σ H)
    (hs : ∀ i σ H, i < n → Pv i σ H → ∀ R : Ends, (∀ σ' H', Pv (i + 1) σ' H' → R.nx σ' H') → (∀ v H', D.rt v H' → R.rt v H') → g (.int (lo + i)) σ H fun σ2 H2 => tb R σ2 H2) (hd : ∀ σ H, Pv n σ H → D.nx σ H) :
    ∃ W : Nat → Nat → L2.St → Hp → Prop, (∃ m, W 0 m σ H) ∧ ∀ i m σ H, W i m σ H →
      ((Itr lo n).stop i H ∧ D.nx σ H) ∨ ((Itr lo n).go i H ∧ ∃ N : L2.St → Hp → Prop, (∀ σ' H', N σ' H' → ∃ m', m' < m ∧ W (i + 1) m' σ' H') ∧ ∀ x H', (Itr lo n).yld i H x H' → g x σ H' fun σ2 H2 => tb { D with nx := N, ct := N, bk := D.nx } σ2 H2) :=
  for_range Pv h0 (fun i σ H hi hp => hs i σ H hi hp _ (fun _ _ z => z) (fun _ _ z => z)) hd
theorem for_revG {K : PySem.W.Frag} {a : Addr} {xs : List V} {g : TG} {tb : TS} {D : Ends} {σ : L2.St} {H : Hp} (Pv : Nat → L2.St → Hp → Prop) (h0 : Pv 0 σ H) (stays : ∀ i σ H, i ≤ xs.length → Pv i σ H → SqL K H a xs)
    (step : ∀ i x σ H, xs[xs.length - 1 - i]? = some x → i < xs.length → Pv i σ H → ∀ R : Ends, (∀ σ' H', Pv (i + 1) σ' H' → R.nx σ' H') → (∀ v H', D.rt v H' → R.rt v H') → g x σ H fun σ2 H2 => tb R σ2 H2) (last : ∀ σ H, Pv xs.length σ H → D.nx σ H) :
    ∃ W : Nat → Nat → L2.St → Hp → Prop, (∃ m, W 0 m σ H) ∧ ∀ i m σ H, W i m σ H →
      ((Itv K a xs.length).stop i H ∧ D.nx σ H) ∨ ((Itv K a xs.length).go i H ∧ ∃ N : L2.St → Hp → Prop, (∀ σ' H', N σ' H' → ∃ m', m' < m ∧ W (i + 1) m' σ' H') ∧ ∀ x H', (Itv K a xs.length).yld i H x H' → g x σ H' fun σ2 H2 => tb { D with nx := N, ct := N, bk := D.nx } σ2 H2) :=
  for_rev Pv h0 stays (fun i x σ H hi hl hp => step i x σ H hi hl hp _ (fun _ _ z => z) (fun _ _ z => z)) last
theorem len1 {α : Type} {us : List α} (h : us.length = 1) : ∃ a, us = [a] := by
  cases us with
  | nil => cases h
  | cons a r => cases r with
    | nil => exact ⟨a, rfl⟩
    | cons b r => cases h
theorem len2 {α : Type} {us : List α} (h : us.length = 2) : ∃ a b, us = [a, b] := by
  cases us with
  | nil => cases h
  | cons a r =>
    obtain ⟨b, rfl⟩ := len1 (us := r) (Nat.succ.inj h)
    exact ⟨a, b, rfl⟩
theorem len3 {α : Type} {us : List α} (h : us.length = 3) : ∃ a b c, us = [a, b, c] := by
  cases us with
  | nil => cases h
  | cons a r =>
    obtain ⟨b, c, rfl⟩ := len2 (us := r) (Nat.succ.inj h)
    exact ⟨a, b, c, rfl⟩
end TT
namespace L2
open PySem PySem.Spec PyProof.Rows

/-! ### lists of pairs as tables -/
section
variable {κ : Type} [DecidableEq κ]
noncomputable def valV (kvs : List (κ × V)) (k : κ) : Option V := (kvs.find? fun kv => decide (kv.1 = k)).map (·.2)
/-- in its place, or at the end -/
noncomputable def putK (kvs : List (κ × V)) (k : κ) (v : V) : List (κ × V) :=
  if (kvs.any fun kv => decide (kv.1 = k)) = true then kvs.map (fun kv => if kv.1 = k then (kv.1, v) else kv) else kvs ++ [(k, v)]
theorem valV_pos {p : κ × V} {r : List (κ × V)} {k : κ} (e : p.1 = k) : valV (p :: r) k = some p.2 := by simp [valV, List.find?_cons, e]
theorem valV_neg {p : κ × V} {r : List (κ × V)} {k : κ} (e : ¬ p.1 = k) : valV (p :: r) k = valV r k := by simp [valV, List.find?_cons, e]
theorem length_putK (kvs : List (κ × V)) (k : κ) (v : V) : (putK kvs k v).length ≤ kvs.length + 1 := by
  unfold putK
  split
  · rw [List.length_map]; omega
  · rw [List.length_append, List.length_cons, List.length_nil]; omega
theorem RelO.getD {o : Option V} {u : Option Value} {d : V} {d' : Value} (r : RelO o u) (rd : RelV d d') : RelV (o.getD d) (u.getD d') := by
  cases o with
  | none => cases u with
    | none => exact rd
    | some _ => exact (show False from r).elim
  | some _ => cases u with
    | none => exact (show False from r).elim
    | some _ => exact r

/-- raw tables of the same keys -/
theorem KV.val {kvs : List (κ × V)} {vs : List (κ × Value)} (r : KV kvs vs) (k : κ) : RelO (valV kvs k) (valueAt vs k) := by
  unfold KV at r
  induction r with
  | nil => exact True.intro
  | @cons p q ps qs h t ih =>
    obtain ⟨h1, h2⟩ := h
    by_cases e : p.1 = k
    · have e' : q.1 = k := h1.symm.trans e
      have b : valueAt (q :: qs) k = some q.2 := by simp [valueAt, List.find?_cons, e']
      rw [valV_pos e, b]; exact h2
    · have e' : ¬ q.1 = k := fun z => e (h1.trans z)
      have b : valueAt (q :: qs) k = valueAt qs k := by simp [valueAt, List.find?_cons, e']
      rw [valV_neg e, b]; exact ih
theorem KV.any {kvs : List (κ × V)} {vs : List (κ × Value)} (r : KV kvs vs) (k : κ) : (kvs.any fun kv => decide (kv.1 = k)) = vs.any fun kv => decide (kv.1 = k) := by
  unfold KV at r
  induction r with
  | nil => rfl
  | cons h t ih => rw [List.any_cons, List.any_cons, ih, h.1]
theorem KV.repl {kvs : List (κ × V)} {vs : List (κ × Value)} (r : KV kvs vs) (k : κ) {y : V} {u : Value} (ry : RelV y u) :
    KV (kvs.map fun kv => if kv.1 = k then (kv.1, y) else kv) (vs.map fun kv => if kv.1 = k then (kv.1, u) else kv) := by
  unfold KV at r ⊢
  induction r with
  | nil => exact .nil
  | @cons p q ps qs h t ih =>
    rw [List.map_cons, List.map_cons]
    refine .cons ?_ ih
    obtain ⟨h1, h2⟩ := h
    by_cases e : p.1 = k
    · rw [if_pos e, if_pos (h1.symm.trans e)]; exact ⟨h1, ry⟩
    · rw [if_neg e, if_neg (fun z => e (h1.trans z))]; exact ⟨h1, h2⟩
theorem KV.put {kvs : List (κ × V)} {vs : List (κ × Value)} (r : KV kvs vs) (k : κ) {y : V} {u : Value} (ry : RelV y u) : KV (putK kvs k y) (stored vs k u) := by
  unfold putK stored
  rw [r.any k]
  by_cases e : (vs.any fun kv => decide (kv.1 = k)) = true
  · rw [if_pos e, if_pos e]; exact r.repl k ry
  · rw [if_neg e, if_neg e]; exact Paired.snoc r ⟨rfl, ry⟩
end


/-! ### a tracked dict, its keys ints and texts or tuples of these -/
theorem kV_is {P : Program} {w : World} {k : Key} {u : Value} (r : RelV (kV k) u) : (mixKind P w).is k u = true := by
  cases k with
  | inl i => obtain ⟨t, e⟩ := (show ∃ t, u = Value.int i t from r); subst e; exact mixKind_int P w i t
  | inr x => obtain ⟨t, e⟩ := (show ∃ t, u = Value.str x t from r); subst e; exact mixKind_str P w x t
theorem items_are {P : Program} {w : World} : ∀ {ks : List Key} {us : List Value}, Vals (ks.map kV) us → ItemsAre (mixKind P w) ks us
  | [], _, r => by rw [List.map_nil] at r; cases r; exact .nil
  | k :: ks, _, r => by
    rw [List.map_cons] at r
    cases r with
    | cons h t => exact .cons (kV_is h) (items_are t)

/-- raw entries of a dict with tuple keys -/
noncomputable abbrev KT (H : Hp) : List (List Key × V) → List (List Key × Addr × Value) → Prop := Paired fun p q => p.1 = q.1 ∧ H q.2.1 = some (.tup (p.1.map kV)) ∧ RelV p.2 q.2.2
theorem KT.val {H : Hp} {kvs : List (List Key × V)} {xs : List (List Key × Addr × Value)} (r : KT H kvs xs) (k : List Key) : RelO (valV kvs k) ((atKey xs k).map (·.2)) := by
  induction r with
  | nil => exact True.intro
  | @cons p q ps qs h t ih =>
    obtain ⟨h1, _, h2⟩ := h
    by_cases e : p.1 = k
    · have e' : q.1 = k := h1.symm.trans e
      have b : atKey (q :: qs) k = some q.2 := by simp [atKey, List.find?_cons, e']
      rw [valV_pos e, b]; exact h2
    · have e' : ¬ q.1 = k := fun z => e (h1.trans z)
      have b : atKey (q :: qs) k = atKey qs k := by simp [atKey, List.find?_cons, e']
      rw [valV_neg e, b]; exact ih
section
variable {P : Program} {w : World} {H : Hp} {h : Heap} {a : Addr}
theorem rd_of {u : HO} (ok : HOk P w H h) (e : Rd H a u) : ObjOk P w H h a u := e.ok ok
theorem dk_rd {kvs : List (Key × V)} (ok : HOk P w H h) (e : Rd H a (.dK kvs)) : kvs.length ≤ sizeLine ∧ (a == sysModules) = false ∧ ∃ vs, KV kvs vs ∧ h.DictOf (mixKind P w) a vs :=
  show ObjOk P w H h a (.dK kvs) from rd_of ok e
theorem dk_of {kvs : List (Key × V)} (ok : HOk P w H h) (e : H a = some (.dK kvs)) : kvs.length ≤ sizeLine ∧ (a == sysModules) = false ∧ ∃ vs, KV kvs vs ∧ h.DictOf (mixKind P w) a vs := dk_rd ok (.inl e)
/-- a tracked tuple of ints and texts is a key -/
theorem key_of {ks : List Key} (ok : HOk P w H h) (e : H a = some (.tup (ks.map kV))) : (tupleKind (mixKind P w)).is h ks a := by
  obtain ⟨_, its, r, o, h1, h2, n, h3⟩ := (show ObjOk P w H h a (.tup (ks.map kV)) from ok a _ e)
  exact ⟨o, its.toArray, n, h1, h2, h3, by simpa using items_are r⟩
theorem dt_rd {kvs : List (List Key × V)} (ok : HOk P w H h) (e : Rd H a (.dT kvs)) : kvs.length ≤ sizeLine ∧ (a == sysModules) = false ∧
    ∃ xs, KT H kvs xs ∧ h.DictOfH (tupleKind (mixKind P w)) a xs := by
  obtain ⟨z, y, xs, r, o, es, ep, h1, h2, h3, h4, h5⟩ := (show ObjOk P w H h a (.dT kvs) from rd_of ok e)
  refine ⟨z, y, xs, r, o, es, ep, h1, h2, h3, h4, fun x hx => ?_, h5⟩
  have all : ∀ {l : List (List Key × V)} {m : List (List Key × Addr × Value)}, KT H l m → ∀ x ∈ m, (tupleKind (mixKind P w)).is h x.1 x.2.1 := by
    intro l m q
    induction q with
    | nil => intro x hx; exact nomatch hx
    | @cons p q ps qs hq t ih =>
      intro x hx
      rcases List.mem_cons.mp hx with e | hx
      · subst e
        exact key_of ok (by rw [← hq.1]; exact hq.2.1)
      · exact ih x hx
  exact all r x hx
end

/-- what the dict at a holds at the key y -/
noncomputable def DGet (H : Hp) (a : Addr) (y : V) (r : Option V) : Prop :=
  (∃ kvs k, Rd H a (.dK kvs) ∧ y = kV k ∧ r = valV kvs k) ∨ ∃ kvs k b, Rd H a (.dT kvs) ∧ y = .ref b ∧ H b = some (.tup (k.map kV)) ∧ r = valV kvs k
theorem DGet.k {H : Hp} {a : Addr} {kvs : List (Key × V)} {k : Key} (e : H a = some (.dK kvs)) : DGet H a (kV k) (valV kvs k) := .inl ⟨kvs, k, .inl e, rfl, rfl⟩
section
variable {X : Cx} {pins : List (Addr × Obj)} {σ : St} {H : Hp} {s : Shared} {a : Addr} {y v : V} {u r : Value} {o : Option V} {A : Around} {E : Value → Shared → Prop}

theorem Inv.big (I : Inv X pins σ H s) : sysModules < s.heap.objs.size := by
  have h : mainGlobals < s.heap.objs.size := (I.mod.glob.keeps I.bk).lt
  exact Nat.lt_trans (by decide) h

/-- a dict's object is replaced -/
theorem d_write {h' : Heap} {t' : Nat} {ob : HO} (I : Inv X pins σ H s) (mu : Mut (H a)) (hs : Heap.SameBut a s.heap h') (he : ∃ q, h'.get? a = some q) (new : ObjOk X.prog X.w (upd H a ob) h' a ob) :
    Inv X pins σ (upd H a ob) { s with heap := h', toks := t' } :=
  I.write (x := a) (e := a) mu (.inl rfl) (fun b q hb z => (hs.2 b hb).trans z) he new
theorem dk_new {P : Program} {w : World} {H' : Hp} {h' : Heap} {kvs : List (Key × V)} {vs : List (Key × Value)} (z : kvs.length ≤ sizeLine) (hd : (a == sysModules) = false) (rel : KV kvs vs) (dd : h'.DictOf (mixKind P w) a vs) :
    ObjOk P w H' h' a (.dK kvs) := ⟨z, hd, vs, rel, dd⟩
end

section
variable {X : Cx} {pins : List (Addr × Obj)} {σ : St} {H : Hp} {s : Shared} {a : Addr} {kvs : List (Key × V)} {k : Key} {u : Value} {A : Around} {E : Value → Shared → Prop}
end


/-! ### readings and rules -/
section
variable {X : Cx} {o i e value : Expr} {pos pos' tpos : Pos} {td ty tv : TE}
end


/-! ### displays -/
theorem dk_empty {P : Program} {w : World} {H : Hp} (h : Heap) (hb : sysModules < h.objs.size) : ObjOk P w H (h.push { cls := .type "dict", data := .dict #[] }) h.objs.size (.dK []) :=
  ⟨Nat.zero_le _, beq_eq_false_iff_ne.mpr (Ne.symm (Nat.ne_of_lt hb)), [], .nil, Heap.DictOf.new h⟩
section
variable {X : Cx} {pos : Pos}
end

/-- the pairs of a display, from the left -/
noncomputable def tPairs : List (TE × TE) → St → Hp → (List (V × V) → Hp → Prop) → Prop
  | [], _, H, Q => Q [] H
  | (tk, tv) :: r, σ, H, Q => tk σ H fun x H1 => tv σ H1 fun y H2 => tPairs r σ H2 fun ps H3 => Q ((x, y) :: ps) H3
noncomputable abbrev VV : List (V × V) → List (Value × Value) → Prop := Paired fun p q => RelV p.1 q.1 ∧ RelV p.2 q.2
noncomputable def PPs (X : Cx) (pos : Pos) (keys : List (Option Expr)) (values : List Expr) (trs : List (TE × TE)) : Prop :=
  ∀ (pins : List (Addr × Obj)) (s : Shared) (σ : St) (H : Hp) (Q : List (V × V) → Hp → Prop), Inv X pins σ H s → tPairs trs σ H Q →
    wpAny (model X.prog X.w) X.A (evalPairs (pairTrees keys values X.env pos)) (fun vs s' => ∃ ps H', Inv X pins σ H' s' ∧ VV ps vs ∧ Q ps H') X.xe s
theorem pps_nil {X : Cx} {pos : Pos} : PPs X pos [] [] [] := fun pins s σ H Q I h => pairTrees_nil_walk ⟨[], H, I, .nil, h⟩
theorem pps_cons {X : Cx} {pos : Pos} {k v : Expr} {ks : List (Option Expr)} {vs : List Expr} {tk tv : TE} {trs : List (TE × TE)} (hk : PE X k tk) (hv : PE X v tv) (hr : PPs X pos ks vs trs) :
    PPs X pos (some k :: ks) (v :: vs) ((tk, tv) :: trs) := fun pins s σ H Q I h =>
  pairTrees_cons_walk (thn (hk pins s σ H _ I h) fun u s1 ⟨x, H1, I1, rx, q1⟩ => thn (hv pins s1 σ H1 _ I1 q1) fun w2 s2 ⟨y, H2, I2, ry, q2⟩ =>
    thn (hr pins s2 σ H2 _ I2 q2) fun ws s3 ⟨ps, H3, I3, rel, q3⟩ => ⟨(x, y) :: ps, H3, I3, .cons ⟨rx, ry⟩ rel, q3⟩)

noncomputable def mergeK (kvs more : List (Key × V)) : List (Key × V) := more.foldl (fun acc kv => putK acc kv.1 kv.2) kvs
theorem KV.merge : ∀ {more : List (Key × V)} {rs : List (Key × Value)} {kvs : List (Key × V)} {vs : List (Key × Value)}, KV more rs → KV kvs vs → KV (mergeK kvs more) (merged vs rs) := by
  intro more rs kvs vs r
  unfold KV at r
  induction r generalizing kvs vs with
  | nil => intro q; exact q
  | @cons p q ps qs h t ih =>
    intro r0
    have e : KV (putK kvs p.1 p.2) (stored vs q.1 q.2) := by
      have := r0.put p.1 h.2
      rw [← h.1]; exact this
    exact ih e
theorem length_mergeK : ∀ (more kvs : List (Key × V)), (mergeK kvs more).length ≤ kvs.length + more.length
  | [], kvs => by show kvs.length ≤ kvs.length + 0; omega
  | p :: r, kvs => by
    have h1 := length_mergeK r (putK kvs p.1 p.2)
    have h2 := length_putK kvs p.1 p.2
    show (mergeK (putK kvs p.1 p.2) r).length ≤ _
    rw [List.length_cons]; omega
theorem carries_of {P : Program} {w : World} : ∀ {kvs : List (Key × V)} {ws : List (Value × Value)}, VV (kvs.map fun kv => (kV kv.1, kv.2)) ws → ∃ rs, Carries (mixKind P w) ws rs ∧ KV kvs rs
  | [], _, r => by rw [List.map_nil] at r; cases r; exact ⟨[], True.intro, .nil⟩
  | p :: kvs, _, r => by
    rw [List.map_cons] at r
    cases r with
    | @cons a b as bs h t =>
      obtain ⟨rs, c, q⟩ := carries_of (P := P) (w := w) t
      obtain ⟨b1, b2⟩ := b
      exact ⟨(p.1, b2) :: rs, ⟨kV_is h.1, rfl, c⟩, .cons ⟨rfl, h.2⟩ q⟩
/-- {k: v, ..} with keys ints and texts; the new dict stands empty while the pairs are made -/
noncomputable def tDisp (trs : List (TE × TE)) : TE := fun σ H Q => ∀ p, H p = none → tPairs trs σ (upd H p (.dK [])) fun ps H2 => H2 p = some (.dK []) ∧ ∃ kvs : List (Key × V), ps = kvs.map (fun kv => (kV kv.1, kv.2)) ∧ kvs.length ≤ 15 ∧ Q (.ref p) (upd H2 p (.dK (mergeK [] kvs)))
theorem pe_disp {X : Cx} {pos : Pos} {keys : List (Option Expr)} {values : List Expr} {trs : List (TE × TE)} (h : PPs X pos keys values trs) (hall : keys.all (·.isSome) = true) (hl : keys.length = values.length) (h0 : keys ≠ [])
    (h15 : keys.length ≤ 15) : PE X (.Dict keys values pos) (tDisp trs) := by
  intro pins s σ H Q I q
  have hn := I.hok.fresh (Nat.le_refl s.heap.objs.size)
  have I1 := I.laid (a := s.heap.objs.size) (o := .dK []) (h' := s.heap.push { cls := .type "dict", data := .dict #[] }) (t' := s.toks) (fun _ _ q => Heap.get?_push_of_some _ q) (Nat.le_refl _) (dk_empty s.heap I.big)
  refine wpAny_Dict_walk (knd := mixKind X.prog X.w) hall hl h0 h15 (thn (h pins _ σ _ _ I1 (q _ hn)) fun ws s2 ⟨ps, H2, I2, rel, e, kvs, ep, lk, q2⟩ => ?_)
  subst ep
  obtain ⟨rs, c, rk⟩ := carries_of (P := X.prog) (w := X.w) rel
  obtain ⟨z, hd, vs0, r0, dd⟩ := dk_of I2.hok e
  cases r0
  refine ⟨rs, c, dd, fun h' dd' hs => ⟨.ref s.heap.objs.size, _, ?_, rfl, q2⟩⟩
  have hz : (mergeK [] kvs).length ≤ sizeLine := by
    have h1 := length_mergeK kvs []
    rw [List.length_nil] at h1
    rw [sizeLine_eq]; omega
  have he : ∃ q, h'.get? s.heap.objs.size = some q := let ⟨q, _, _, hq, _⟩ := dd'; ⟨q, hq⟩
  exact d_write I2 (by rw [e]; exact True.intro) hs he (dk_new hz hd (rk.merge .nil) dd')


/-! ### methods -/
/-- a method call o.m(e) of a built-in, with one argument: what must be seen of the text -/
structure M1 (X : Cx) (o : Expr) (m : Str) (apos : Pos) (e : Expr) (cpos : Pos) : Prop where
  base : attributeBase o m X.env (eval o X.env) = eval o X.env
  few : ((backTo cpos (starEach [e] X.env)).all (fun x => !x.1) && (backToKw cpos (keywordEach [] X.env)).all (fun x => x.1.isSome)
    && decide (([e] : List Expr).length + ([] : List Keyword).length + (if ([] : List Keyword).isEmpty then 0 else 1) < 30)) = true
  line : (apos.endLine == cpos.line) = true
  trees : backTo cpos (starEach [e] X.env) = [(false, eval e X.env)]
structure M2 (X : Cx) (o : Expr) (m : Str) (apos : Pos) (e f : Expr) (cpos : Pos) : Prop where
  base : attributeBase o m X.env (eval o X.env) = eval o X.env
  few : ((backTo cpos (starEach [e, f] X.env)).all (fun x => !x.1) && (backToKw cpos (keywordEach [] X.env)).all (fun x => x.1.isSome)
    && decide (([e, f] : List Expr).length + ([] : List Keyword).length + (if ([] : List Keyword).isEmpty then 0 else 1) < 30)) = true
  line : (apos.endLine == cpos.line) = true
  trees : backTo cpos (starEach [e, f] X.env) = [(false, eval e X.env), (false, eval f X.env)]

/-- a is a dict, whatever its keys -/
noncomputable def IsD (H : Hp) (a : Addr) : Prop := (∃ kvs, Rd H a (.dK kvs)) ∨ ∃ kvs, Rd H a (.dT kvs)
theorem isD_at {X : Cx} {pins : List (Addr × Obj)} {σ : St} {H : Hp} {s : Shared} {a : Addr} (I : Inv X pins σ H s) (d : IsD H a) :
    s.TypeIs (.ref a) "dict" ∧ (∀ b, Value.ref a = .ref b → ∃ ob, s.heap.get? b = some ob ∧ ob.dict = none) ∧ (a == sysModules) = false := by
  rcases d with ⟨kvs, e⟩ | ⟨kvs, e⟩
  · obtain ⟨_, hd, vs, _, dd⟩ := dk_rd I.hok e
    refine ⟨dd.typeIs, fun b q => ?_, hd⟩
    cases q
    obtain ⟨ob, _, _, h1, h2, _⟩ := dd
    exact ⟨ob, h1, h2.2.1⟩
  · obtain ⟨_, hd, xs, _, dd⟩ := dt_rd I.hok e
    refine ⟨dd.typeIs, fun b q => ?_, hd⟩
    cases q
    obtain ⟨ob, _, _, h1, h2, _⟩ := dd
    exact ⟨ob, h1, h2.2.1⟩

section
variable {X : Cx} {pins : List (Addr × Obj)} {σ : St} {H : Hp} {s : Shared} {a : Addr} {y d : V} {u r : Value} {o : Option V} {A : Around} {E : Value → Shared → Prop}
/-- d.get(y, x) -/
theorem d_get2 {Q : Value → Shared → Prop} (hu : A.units + 1 < cLine) (I : Inv X pins σ H s) (g : DGet H a y o) (ry : RelV y u) (rd : RelV d r) (h : ∀ w' s', Inv X pins σ H s' → RelV (o.getD d) w' → Q w' s') :
    wpAny (model X.prog X.w) A (call (.builtin "dict.get") [.ref a, u, r]) Q E s := by
  rcases g with ⟨kvs, k, e, ey, l⟩ | ⟨kvs, k, b, e, ey, eb, l⟩
  · subst ey
    obtain ⟨z, hd, vs, rel, dd⟩ := dk_rd I.hok e
    refine call_meetsIn PySem.F.slot_dict_get dd.typeIs PySem.F.entry_dict_get (PySem.F.args_dict_get_3 _ _ _) (meets_dict_get_default (mixKind X.prog X.w) a (kV_is ry) hd r) ⟨_, dd.mapOf, h _ _ (I.tok _) ?_⟩
    rw [l]
    exact (rel.val k).getD rd
  · subst ey
    cases (show u = Value.ref b from ry)
    obtain ⟨z, hd, xs, rel, dd⟩ := dt_rd I.hok e
    refine call_meetsIn PySem.F.slot_dict_get dd.typeIs PySem.F.entry_dict_get (PySem.F.args_dict_get_3 _ _ _) (meetsH_dict_get_default (tupleKind (mixKind X.prog X.w)) a b hd r) ⟨tupleKind_room_in1 hu, k, xs, key_of I.hok eb, dd, h _ _ (I.tok _) ?_⟩
    rw [l]
    exact (rel.val k).getD rd
end

noncomputable def tDGet2 (td ty tx : TE) : TE := fun σ H Q => td σ H fun x H1 => ∃ a, x = .ref a ∧ IsD H1 a ∧ ty σ H1 fun y H2 => tx σ H2 fun z H3 => ∃ o, DGet H3 a y o ∧ Q (o.getD z) H3
section
variable {X : Cx} {o e f : Expr} {apos cpos : Pos} {td ty tx : TE}
theorem pe_dget2 (hu : X.A.units + 1 < cLine) (ho : PE X o td) (he : PE X e ty) (hf : PE X f tx) (m : M2 X o "get" apos e f cpos) : PE X (.Call (.Attribute o "get" apos) [e, f] [] cpos) (tDGet2 td ty tx) := by
  intro pins s σ H Q I h
  refine wpAny_Call_method m.base m.few m.line PySem.F.plainAttrs_dict PySem.F.slot_dict_get PySem.F.type_dict_get (thn (ho pins s σ H _ I h) fun u s1 ⟨x, H1, I1, rx, a, ex, d, q1⟩ => ?_)
  subst ex
  obtain rfl : u = Value.ref a := rx
  obtain ⟨t1, t2, _⟩ := isD_at I1 d
  refine ⟨t1, t2, ?_⟩
  rw [m.trees]
  refine Calls.callWith_builtin rfl (Calls.evalArgs_plain (Calls.spliced_cons (thn (he pins s1 σ H1 _ I1 q1) fun iv s2 ⟨y, H2, I2, ry, q2⟩ =>
    Calls.spliced_cons (thn (hf pins s2 σ H2 _ I2 q2) fun fv s3 ⟨z, H3, I3, rz, ov, g, q3⟩ => Calls.spliced_nil ?_))))
  exact d_get2 hu I3 g ry rz fun w' s4 I4 rw' => ⟨_, H3, I4, rw', q3⟩
end

/-! ### dict(d): a copy -/
section
variable {X : Cx} {pins : List (Addr × Obj)} {σ : St} {H : Hp} {s : Shared} {a : Addr} {kvs : List (Key × V)} {A : Around} {E : Value → Shared → Prop}
end


section
variable {X : Cx} {pins : List (Addr × Obj)} {σ : St} {H : Hp} {s : Shared} {a : Addr} {y : V} {u : Value} {A : Around} {E : Value → Shared → Prop}
end
end L2
namespace K3
open PySem L2 TT
noncomputable def top (i : Nat) : Stmt := PySem.Challenge.pw_treetrim_k03_whole_steps_turned.main.body.getD i (.Pass ⟨0, 0, 0, 0⟩)
noncomputable abbrev sMark : Stmt := top 4
noncomputable abbrev sTU : Stmt := top 5
noncomputable abbrev sKnot : Stmt := top 6
noncomputable abbrev sLevels : Stmt := top 7
noncomputable abbrev sAt : Stmt := top 8
noncomputable abbrev sWith : Stmt := top 9
noncomputable abbrev sLeads : Stmt := top 11
noncomputable abbrev sDone : Stmt := top 13
noncomputable abbrev sBehind : Stmt := top 14
noncomputable abbrev sTurned : Stmt := top 15
noncomputable abbrev sTaken : Stmt := top 16
noncomputable abbrev sMany : Stmt := top 17
noncomputable abbrev sInstead : Stmt := top 18
noncomputable abbrev sLed : Stmt := top 19
noncomputable abbrev sDrawn : Stmt := top 21
noncomputable abbrev sAll : Stmt := top 22
noncomputable abbrev sStepped : Stmt := top 23
noncomputable abbrev sIsRow : Stmt := top 24
noncomputable abbrev sIsPath : Stmt := top 25
noncomputable abbrev sAre : Stmt := top 26
noncomputable abbrev sWalked : Stmt := top 27
noncomputable abbrev sSize : Stmt := top 28
noncomputable abbrev sWandered : Stmt := top 29
noncomputable abbrev sRefuses : Stmt := top 30
noncomputable abbrev sWord : Stmt := top 31
noncomputable abbrev sAny : Stmt := top 32
noncomputable abbrev sDue : Stmt := top 33
noncomputable abbrev sSo : Stmt := top 34
noncomputable abbrev sLaw : Stmt := top 35
/-- what the text does not name anew -/
structure Txt (mg : Str → Option Value) : Prop where
  list : mg "list" = none
  tuple : mg "tuple" = none
  len : mg "len" = none
  range : mg "range" = none
  min : mg "min" = none
  abs : mg "abs" = none
  sum : mg "sum" = none
  sorted : mg "sorted" = none
  isinstance : mg "isinstance" = none
  enumerate : mg "enumerate" = none
  str : mg "str" = none
  int : mg "int" = none
  bool : mg "bool" = none
  reversed : mg "reversed" = none
section
variable {P : Program} {w : World} {K : PySem.W.Frag} {mg : Str → Option Value} {base : Heap}

/-! ### trees_under -/
noncomputable def spTU : Sp := fun vs H Q _ => ∃ (G : Hp) (v : V) (t : Tr), vs = [v] ∧ Same G H ∧ Rep G v t.d ∧ ∀ (G' H' : Hp) (r : V), Ext G H G' H' → Rep G' r (rowD t.kids) → Q r H'
theorem scTU : FnScope ["tree"] ["tree"] (defScope sTU) := ⟨rfl, rfl, rfl, by decide +kernel, rfl, by decide +kernel, by decide +kernel⟩
theorem ok_tu {f : Addr} {fd : FuncData} (F : Fun K "trees_under" "trees_under" sTU f fd) (T : Txt mg) : FnOk P w K mg base CX0 3 f fd ["tree"] spTU := by
  refine F.ok scTU (fun vs H Q E h => ?_) (fun cdv A outer s H vs Q E hr h => ?_)
  · refine fold_goal fun Zg hZg => ?_
    obtain ⟨G, v, t, rfl, _⟩ := h
    refine hZg ?_
    clear hZg Zg
    rfl
  · refine fold_goal fun Zg hZg => ?_
    obtain ⟨G, v, t, rfl, sm, r, k⟩ := h
    refine hZg ?_
    clear hZg Zg
    refine fold_goal fun Zg hZg => ?_
    obtain ⟨a, kv, rfl, ha, rk⟩ := r.tree
    refine hZg ?_
    clear hZg Zg
    refine ⟨_, (pss_one (ps_ret (pe_callTy call_list_of rfl T.list bt_list (pa_cons (pe_slice sl_tup (pv 0) (po_some pe_int) po_none) pa_nil)))), ?_⟩
    refine ⟨_, rfl, _, rfl, a, _, rfl, SqT.of (sm _ _ ha), kids_not _ _, fun p hp => ⟨p, kv, rfl, .inr (SqT.of (by rw [upd_same, kids_cut])), fun l hl => ?_⟩⟩
    have x1 : Ext G H G (upd H p (.tup (cutV (V.str t.mark :: kv) (some 1) none))) := Ext.tmp sm hp
    have x2 := x1.trans (Ext.add (o := .lst kv) x1.gh hl)
    exact k _ _ _ x2 (.lst upd_same (rk.mono x2.g))

/-! ### leads -/
noncomputable def spLeads : Sp := fun vs H Q _ => ∃ (G : Hp) (v u : V) (ts : List Tr) (p : List Int), vs = [v, u] ∧ Same G H ∧ Rep G v (rowD ts) ∧ Rep G u (pathD p) ∧ ∀ H' : Hp, Same H H' → Q (.bl (down ts p).isSome) H'
theorem scLeads : FnScope ["row", "path", "trees", "place"] ["row", "path"] (defScope sLeads) := ⟨rfl, rfl, rfl, by decide +kernel, rfl, by decide +kernel, by decide +kernel⟩
theorem ok_leads {f : Addr} {fd : FuncData} (F : Fun K "leads" "leads" sLeads f fd) (T : Txt mg) (F_tu : Ok1 P w K mg base 3 "trees_under" ["tree"] spTU) : FnOk P w K mg base CX0 5 f fd ["row", "path"] spLeads := by
  refine F.ok scLeads (fun vs H Q E h => ?_) (fun cdv A outer s H vs Q E hr h => ?_)
  · refine fold_goal fun Zg hZg => ?_
    obtain ⟨G, v, u, ts, p, rfl, _⟩ := h
    refine hZg ?_
    clear hZg Zg
    rfl
  · refine fold_goal fun Zg hZg => ?_
    obtain ⟨G, v, u, ts, p, rfl, sm, rv, ru, k⟩ := h
    refine hZg ?_
    clear hZg Zg
    have nd := scLeads.nd
    refine fold_goal fun Zg hZg => ?_
    obtain ⟨pa, rfl, hpa⟩ := ru.path
    refine hZg ?_
    clear hZg Zg
    refine ⟨_, (pss_cons (ps_set (i := 2) nd rfl (Or.inl rfl) (pv 0))
      (pss_cons (ps_for PassesOwn.never rfl (pi_list (pv 1)) (pg_name (i := 3) nd rfl (Or.inl rfl))
        (pss_cons (ps_if (PW.pt (pw_or (pt_cmpR op_lt (pv 3) pe_int (nomark _)) (pw_or1 (pt_cmpR op_ge (pv 3) (pe_callB call_len_seq rfl T.len bt_len (pa_cons (pv 2) pa_nil)) (nomark _)))))
          (pss_one (ps_ret pe_bl))
          pss_nil)
        (pss_one (ps_set (i := 2) nd rfl (Or.inl rfl) (pe_fn F_tu (hr.mono (by decide)) rfl (pa_cons (pe_ix ix_list (pv 2) (pv 3) (fun _ _ => rfl)) pa_nil))))))
      (pss_one (ps_ret pe_bl)))), ?_⟩
    refine ⟨_, rfl, _, rfl, pa, rfl, ⟨_, SqL.of (sm _ _ hpa)⟩, for_list (K := K) (a := pa) (xs := p.map V.int)
      (fun i σ H2 => ∃ (G2 : Hp) (tv : V) (us : List Tr) (pl : Option V), σ = [some v, some (.ref pa), some tv, pl] ∧ Ext G H G2 H2 ∧ Rep G2 tv (rowD us) ∧ down ts (p.take i) = some us)
      ⟨G, v, ts, none, rfl, Ext.refl sm, rv, rfl⟩ (fun i σ H2 _ hZq => by obtain ⟨G2, _, _, _, _, x, _⟩ := hZq; exact SqL.of (x.h _ _ (sm _ _ hpa))) ?_ ?_⟩
    · intro i y σ H2 hi hZp
      refine fold_goal fun Zg hZg => ?_
      obtain ⟨G2, tv, us, pl, rfl, x, rt, hd⟩ := hZp
      refine hZg ?_
      clear hZg Zg
      have hil : i < p.length := by
        have := (List.getElem?_eq_some_iff.mp hi).1
        rwa [List.length_map] at this
      obtain rfl : V.int p[i] = y := by
        rw [List.getElem?_map, List.getElem?_eq_getElem hil] at hi
        exact Option.some.inj hi
      have hdrop : p.drop i = p[i] :: p.drop (i + 1) := List.drop_eq_getElem_cons hil
      have hall : down ts p = down us (p[i] :: p.drop (i + 1)) := by
        have e := down_append ts (p.take i) (p.drop i)
        rw [List.take_append_drop, hd, hdrop] at e
        exact e
      refine fold_goal fun Zg hZg => ?_
      obtain ⟨ta, tvs, rfl, hta, rts⟩ := rt.row
      refine hZg ?_
      clear hZg Zg
      have hlen := rts.length
      rw [List.length_map] at hlen
      -- place < 0
      refine ⟨_, rfl, _, _, rfl, rfl, _, rfl, ?_⟩
      refine ite2 (fun hneg => ?_) (fun hneg => ?_)
      · refine iteT ?_
        have e : (down ts p).isSome = false := by
          rw [hall, down, if_pos (of_decide_eq_true hneg)]
          rfl
        have := k H2 x.h
        rw [e] at this
        exact this
      · have h0 : ¬ p[i] < 0 := fun z => hneg (decide_eq_true z)
        -- place >= len(trees)
        refine ⟨_, rfl, _, rfl, ta, tvs, rfl, .inl (SqL.of (x.gh _ _ hta)), _, _, rfl, rfl, _, rfl, ?_⟩
        refine ite2 (fun hge => ?_) (fun hge => ?_)
        · have h1 : (tvs.length : Int) ≤ p[i] := of_decide_eq_true hge
          have e : (down ts p).isSome = false := by
            have en : us[(p[i]).toNat]? = none := List.getElem?_eq_none_iff.mpr (by omega)
            rw [hall, down, if_neg h0, en]
            rfl
          have := k H2 x.h
          rw [e] at this
          exact this
        · have h1 : ¬ (tvs.length : Int) ≤ p[i] := fun z => hge (decide_eq_true z)
          have hju : (p[i]).toNat < us.length := by omega
          obtain ⟨tr, htr, rtr⟩ := rts.get (i := (p[i]).toNat) (d := us[(p[i]).toNat].d) (by rw [List.getElem?_map, List.getElem?_eq_getElem hju]; rfl)
          have hix : atI tvs p[i] = some tr := by
            have := atI_nat htr
            rwa [Int.toNat_of_nonneg (by omega)] at this
          refine ⟨_, rfl, _, rfl, ta, tvs, _, tr, rfl, rfl, SqL.of (x.gh _ _ hta), hix, G2, tr, _, rfl, x.gh, rtr, fun G3 H3 r3 x3 rr => ?_⟩
          refine ⟨G3, r3, _, _, rfl, x.trans x3, rr, ?_⟩
          rw [List.take_succ_eq_append_getElem hil, down_append, hd]
          show down us [p[i]] = _
          rw [down, if_neg h0, List.getElem?_eq_getElem hju]
          rfl
    · intro σ H2 hZp
      refine fold_goal fun Zg hZg => ?_
      obtain ⟨G2, tv, us, pl, rfl, x, rt, hd⟩ := hZp
      refine hZg ?_
      clear hZg Zg
      rw [List.length_map, List.take_length] at hd
      have := k H2 x.h
      rw [hd] at this
      exact this
end
end K3
namespace K3
open PySem L2 TT
section
variable {P : Program} {w : World} {K : PySem.W.Frag} {mg : Str → Option Value} {base : Heap}
/-! ### mark_of, knot -/
noncomputable def spMark : Sp := fun vs H Q _ => ∃ (G : Hp) (v : V) (t : Tr), vs = [v] ∧ Same G H ∧ Rep G v t.d ∧ Q (.str t.mark) H
theorem scMark : FnScope ["tree"] ["tree"] (defScope sMark) := ⟨rfl, rfl, rfl, by decide +kernel, rfl, by decide +kernel, by decide +kernel⟩
theorem ok_mark {f : Addr} {fd : FuncData} (F : Fun K "mark_of" "mark_of" sMark f fd) : FnOk P w K mg base CX0 3 f fd ["tree"] spMark := by
  refine F.ok scMark (fun vs H Q E h => ?_) (fun cdv A outer s H vs Q E hr h => ?_)
  · refine fold_goal fun Zg hZg => ?_
    obtain ⟨G, v, t, rfl, _⟩ := h
    refine hZg ?_
    clear hZg Zg
    rfl
  · refine fold_goal fun Zg hZg => ?_
    obtain ⟨G, v, t, rfl, sm, r, k⟩ := h
    refine hZg ?_
    clear hZg Zg
    refine fold_goal fun Zg hZg => ?_
    obtain ⟨a, kv, rfl, ha, rk⟩ := r.tree
    refine hZg ?_
    clear hZg Zg
    refine ⟨_, (pss_one (ps_ret (pe_ix ix_tup (pv 0) pe_int (fun _ _ => rfl)))), ?_⟩
    exact ⟨_, rfl, a, _, _, _, rfl, rfl, SqT.of (sm _ _ ha), atI_nat (j := 0) rfl, k⟩
noncomputable def spKnot : Sp := fun vs H Q _ => ∃ (G : Hp) (m : Str) (v : V) (ts : List Tr), vs = [.str m, v] ∧ Same G H ∧ Rep G v (rowD ts) ∧ ts.length ≤ 100000 ∧ ∀ (G' H' : Hp) (r : V), Ext G H G' H' → Rep G' r (Tr.node m ts).d → Q r H'
theorem scKnot : FnScope ["mark", "trees"] ["mark", "trees"] (defScope sKnot) := ⟨rfl, rfl, rfl, by decide +kernel, rfl, by decide +kernel, by decide +kernel⟩
theorem ok_knot {f : Addr} {fd : FuncData} (F : Fun K "knot" "knot" sKnot f fd) (T : Txt mg) : FnOk P w K mg base CX0 3 f fd ["mark", "trees"] spKnot := by
  refine F.ok scKnot (fun vs H Q E h => ?_) (fun cdv A outer s H vs Q E hr h => ?_)
  · refine fold_goal fun Zg hZg => ?_
    obtain ⟨G, m, v, t, rfl, _⟩ := h
    refine hZg ?_
    clear hZg Zg
    rfl
  · refine fold_goal fun Zg hZg => ?_
    obtain ⟨G, m, v, ts, rfl, sm, r, hl, k⟩ := h
    refine hZg ?_
    clear hZg Zg
    refine fold_goal fun Zg hZg => ?_
    obtain ⟨a, tv, rfl, ha, rt⟩ := r.row
    refine hZg ?_
    clear hZg Zg
    have hlen := rt.length
    rw [List.length_map] at hlen
    have big := line_big
    refine ⟨_, (pss_one (ps_ret (pe_callTy call_tuple_of rfl T.tuple bt_tuple (pa_cons (pe_op op_cat (pe_lst (pa_cons (pv 0) pa_nil)) (pv 1)) pa_nil)))), ?_⟩
    refine ⟨_, rfl, (by show 1 ≤ sizeLine; decide), fun p1 h1 => ⟨_, rfl, p1, a, _, _, rfl, rfl, upd_same, same_upd h1 _ _ (sm _ _ ha), (by show 1 + tv.length ≤ sizeLine; omega), fun p2 h2 => ⟨p2, _, rfl, .inl ⟨SqL.of upd_same, fun p3 h3 => ?_⟩⟩⟩⟩
    have x1 : Ext G H G (upd H p1 (.lst [V.str m])) := Ext.tmp sm h1
    have x2 := x1.trans (Ext.tmp (o := .lst ([V.str m] ++ tv)) x1.gh h2)
    have x3 := x2.trans (Ext.add (o := .tup ([V.str m] ++ tv)) x2.gh h3)
    refine k _ _ _ x3 ?_
    rw [tree_d]
    exact .tup upd_same (.cons (.str m) (rt.mono x3.g))
/-! ### levels, trees_at -/
noncomputable def spLevels : Sp := fun vs H Q _ => ∃ (G : Hp) (v u : V) (ts : List Tr) (p : List Int), vs = [v, u] ∧ Same G H ∧ Rep G v (rowD ts) ∧ Rep G u (pathD p) ∧ (down ts p).isSome = true ∧ p.length ≤ 1000 ∧
  ∀ (G' H' : Hp) (r : V), Ext G H G' H' → Rep G' r (.lst ((levelsOf ts p).map rowD)) → Q r H'
theorem scLevels : FnScope ["row", "path", "found", "place"] ["row", "path"] (defScope sLevels) := ⟨rfl, rfl, rfl, by decide +kernel, rfl, by decide +kernel, by decide +kernel⟩
theorem ok_levels {f : Addr} {fd : FuncData} (F : Fun K "levels" "levels" sLevels f fd) (T : Txt mg) (F_tu : Ok1 P w K mg base 3 "trees_under" ["tree"] spTU) : FnOk P w K mg base CX0 5 f fd ["row", "path"] spLevels := by
  refine F.ok scLevels (fun vs H Q E h => ?_) (fun cdv A outer s H vs Q E hr h => ?_)
  · refine fold_goal fun Zg hZg => ?_
    obtain ⟨G, v, u, ts, p, rfl, _⟩ := h
    refine hZg ?_
    clear hZg Zg
    rfl
  · refine fold_goal fun Zg hZg => ?_
    obtain ⟨G, v, u, ts, p, rfl, sm, rv, ru, hd, hp, k⟩ := h
    refine hZg ?_
    clear hZg Zg
    have nd := scLevels.nd
    have big := line_big
    refine fold_goal fun Zg hZg => ?_
    obtain ⟨pa, rfl, hpa⟩ := ru.path
    refine hZg ?_
    clear hZg Zg
    refine ⟨_, (pss_cons (ps_set (i := 2) nd rfl (Or.inl rfl) (pe_lst (pa_cons (pv 0) pa_nil)))
      (pss_cons (ps_for PassesOwn.never rfl (pi_list (pv 1)) (pg_name (i := 3) nd rfl (Or.inl rfl))
        (pss_one (ps_expr (pe_bm PySem.F.plainAttrs_list PySem.F.slot_list_append PySem.F.type_list_append mt_append (pv 2) (pa_cons (pe_fn F_tu (hr.mono (by decide)) rfl (pa_cons (pe_ix ix_list (pe_ix ix_list (pv 2) (pe_un un_neg pe_int) (fun _ _ => rfl)) (pv 3) (fun _ _ => rfl)) pa_nil)) pa_nil)))))
      (pss_one (ps_ret (pv 2))))), ?_⟩
    refine ⟨_, rfl, (by show 1 ≤ sizeLine; decide), fun pf hpf => ?_⟩
    have npf : G pf = none := sm.none hpf
    have x0 : Ext G H G (upd H pf (.lst [v])) := Ext.tmp sm hpf
    have hlv : ∀ i us, i ≤ p.length → down ts (p.take i) = some us → (levelsOf ts p).take (i + 1) = (levelsOf ts p).take i ++ [us] := fun i us hi h => take_one (levelsOf_get hi h)
    refine ⟨_, rfl, pa, rfl, ⟨_, SqL.of (x0.h _ _ (sm _ _ hpa))⟩, for_list (K := K) (a := pa) (xs := p.map V.int)
      (fun i σ H2 => ∃ (G2 : Hp) (fv : List V) (z : Option V), σ = [some v, some (.ref pa), some (.ref pf), z] ∧ Ext G H G2 H2 ∧ G2 pf = none ∧ H2 pf = some (.lst fv) ∧ Reps G2 fv (((levelsOf ts p).take (i + 1)).map rowD))
      ⟨G, [v], none, rfl, x0, npf, upd_same, ?_⟩ (fun i σ H2 _ hZq => by obtain ⟨G2, _, _, _, x, _⟩ := hZq; exact SqL.of (x.h _ _ (sm _ _ hpa))) ?_ ?_⟩
    · rw [hlv 0 ts (Nat.zero_le _) rfl, List.take_zero, List.nil_append]
      exact .cons rv .nil
    · intro i y σ H2 hi hZp
      refine fold_goal fun Zg hZg => ?_
      obtain ⟨G2, fv, z, rfl, x, nf, hf, rf⟩ := hZp
      refine hZg ?_
      clear hZg Zg
      have hil : i < p.length := by
        have := (List.getElem?_eq_some_iff.mp hi).1
        rwa [List.length_map] at this
      obtain rfl : V.int p[i] = y := by
        rw [List.getElem?_map, List.getElem?_eq_getElem hil] at hi
        exact Option.some.inj hi
      refine fold_goal fun Zg hZg => ?_
      obtain ⟨us, t, hus, h0, ht, hk⟩ := down_at hd hil
      refine hZg ?_
      clear hZg Zg
      have hfl := rf.length
      rw [List.length_map, List.length_take, levelsOf_length] at hfl
      obtain ⟨lv, hlvv, rlv⟩ := rf.get (i := i) (d := rowD us) (by rw [List.getElem?_map, List.getElem?_take_of_lt (by omega), levelsOf_get (by omega) hus]; rfl)
      have hlast : atI fv (-1) = some lv := by
        unfold atI ixN
        rw [if_neg (by decide), if_pos (by omega)]
        have e : ((-1 : Int) + (fv.length : Int)).toNat = i := by omega
        rw [Option.bind_some, e, hlvv]
      refine fold_goal fun Zg hZg => ?_
      obtain ⟨ua, uv, rfl, hua, rus⟩ := rlv.row
      refine hZg ?_
      clear hZg Zg
      obtain ⟨tr, htr, rtr⟩ := rus.get (i := (p[i]).toNat) (d := t.d) (by rw [List.getElem?_map, ht]; rfl)
      have hix : atI uv p[i] = some tr := by
        have := atI_nat htr
        rwa [Int.toNat_of_nonneg h0] at this
      refine ⟨_, rfl, .inl ⟨rfl, _, SqL.of hf⟩, _, rfl, _, rfl, pf, fv, _, _, rfl, rfl, SqL.of hf, hlast, _, rfl, ua, uv, _, tr, rfl, rfl, SqL.of (x.gh _ _ hua), hix, G2, tr, t, rfl, x.gh, rtr, fun G3 H3 r3 x3 rr => ?_⟩
      have hf3 := x3.h _ _ hf
      have nf3 : G3 pf = none := x3.keep hf nf
      refine ⟨pf, fv, r3, rfl, rfl, hf3, by omega, ?_⟩
      refine ⟨G3, _, _, rfl, (x.trans x3).mut nf3 hpf, nf3, upd_same, ?_⟩
      rw [hlv (i + 1) t.kids (by omega) hk, List.map_append]
      exact (rf.mono x3.g).append (.cons rr .nil)
    · intro σ H2 hZp
      refine fold_goal fun Zg hZg => ?_
      obtain ⟨G2, fv, z, rfl, x, nf, hf, rf⟩ := hZp
      refine hZg ?_
      clear hZg Zg
      refine ⟨_, rfl, k _ _ _ (x.freeze nf hpf hf) (.lst upd_same ?_)⟩
      rw [List.length_map, List.take_of_length_le (by rw [levelsOf_length]; exact Nat.le_refl _)] at rf
      exact rf.mono (same_upd nf)
noncomputable def spAt : Sp := fun vs H Q _ => ∃ (G : Hp) (v u : V) (ts us : List Tr) (p : List Int), vs = [v, u] ∧ Same G H ∧ Rep G v (rowD ts) ∧ Rep G u (pathD p) ∧ down ts p = some us ∧ p.length ≤ 1000 ∧
  ∀ (G' H' : Hp) (r : V), Ext G H G' H' → Rep G' r (rowD us) → Q r H'
theorem scAt : FnScope ["row", "path"] ["row", "path"] (defScope sAt) := ⟨rfl, rfl, rfl, by decide +kernel, rfl, by decide +kernel, by decide +kernel⟩
theorem ok_at {f : Addr} {fd : FuncData} (F : Fun K "trees_at" "trees_at" sAt f fd) (F_levels : Ok1 P w K mg base 5 "levels" ["row", "path"] spLevels) : FnOk P w K mg base CX0 7 f fd ["row", "path"] spAt := by
  refine F.ok scAt (fun vs H Q E h => ?_) (fun cdv A outer s H vs Q E hr h => ?_)
  · refine fold_goal fun Zg hZg => ?_
    obtain ⟨G, v, u, ts, us, p, rfl, _⟩ := h
    refine hZg ?_
    clear hZg Zg
    rfl
  · refine fold_goal fun Zg hZg => ?_
    obtain ⟨G, v, u, ts, us, p, rfl, sm, rv, ru, hd, hp, k⟩ := h
    refine hZg ?_
    clear hZg Zg
    refine ⟨_, (pss_one (ps_ret (pe_ix ix_list (pe_fn F_levels (hr.mono (by decide)) rfl (pa_cons (pv 0) (pa_cons (pv 1) pa_nil))) (pe_un un_neg pe_int) (fun _ _ => rfl)))), ?_⟩
    refine ⟨_, rfl, _, rfl, G, v, u, ts, p, rfl, sm, rv, ru, by rw [hd]; rfl, hp, fun G1 H1 r x rr => ?_⟩
    cases rr with
    | lst ha rl =>
      refine fold_goal fun Zg hZg => ?_
      obtain ⟨lv, hlv, rlv⟩ := last_of_levels rl hd
      refine hZg ?_
      clear hZg Zg
      exact ⟨_, rfl, _, _, _, lv, rfl, rfl, SqL.of (x.gh _ _ ha), hlv, k _ _ _ x rlv⟩
end
end K3
namespace K3
open PySem L2 TT
section
variable {P : Program} {w : World} {K : PySem.W.Frag} {mg : Str → Option Value} {base : Heap}
/-! ### with_trees_at -/
noncomputable def spWith : Sp := fun vs H Q _ => ∃ (G : Hp) (v u z : V) (ts xs : List Tr) (p : List Int), vs = [v, u, z] ∧ Same G H ∧ Rep G v (rowD ts) ∧ Rep G u (pathD p) ∧ Rep G z (rowD xs) ∧ (down ts p).isSome = true ∧ p.length ≤ 1000 ∧ knotsOf ts ≤ 1000 ∧ knotsOf xs ≤ 2000 ∧
  ∀ (G' H' : Hp) (r : V), Ext G H G' H' → Rep G' r (rowD (setAt ts p xs)) → Q r H'
theorem scWith : FnScope ["row", "path", "trees", "beside", "changed", "depth", "place", "level", "tree"] ["row", "path", "trees"] (defScope sWith) := ⟨rfl, rfl, rfl, by decide +kernel, rfl, by decide +kernel, by decide +kernel⟩
theorem ok_with {f : Addr} {fd : FuncData} (F : Fun K "with_trees_at" "with_trees_at" sWith f fd) (T : Txt mg) (F_levels : Ok1 P w K mg base 5 "levels" ["row", "path"] spLevels) (F_knot : Ok1 P w K mg base 3 "knot" ["mark", "trees"] spKnot)
    (F_mark : Ok1 P w K mg base 3 "mark_of" ["tree"] spMark) : FnOk P w K mg base CX0 7 f fd ["row", "path", "trees"] spWith := by
  refine F.ok scWith (fun vs H Q E h => ?_) (fun cdv A outer s H vs Q E hr h => ?_)
  · refine fold_goal fun Zg hZg => ?_
    obtain ⟨G, v, u, z, ts, xs, p, rfl, _⟩ := h
    refine hZg ?_
    clear hZg Zg
    rfl
  · refine fold_goal fun Zg hZg => ?_
    obtain ⟨G, v, u, z, ts, xs, p, rfl, sm, rv, ru, rz, hd, hp, hkt, hkx, k⟩ := h
    refine hZg ?_
    clear hZg Zg
    have nd := scWith.nd
    have big := line_big
    refine fold_goal fun Zg hZg => ?_
    obtain ⟨pa, rfl, hpa⟩ := ru.path
    refine hZg ?_
    clear hZg Zg
    refine ⟨_, (pss_cons (ps_set (i := 3) nd rfl (Or.inl rfl) (pe_fn F_levels (hr.mono (by decide)) rfl (pa_cons (pv 0) (pa_cons (pv 1) pa_nil))))
      (pss_cons (ps_set (i := 4) nd rfl (Or.inl rfl) (pe_callTy call_list_of rfl T.list bt_list (pa_cons (pv 2) pa_nil)))
      (pss_cons (ps_for PassesOwn.never rfl (pi_rangeD rfl T.range (pa_cons (pe_op op_sub (pe_callB call_len_seq rfl T.len bt_len (pa_cons (pv 1) pa_nil)) pe_int) (pa_cons (pe_un un_neg pe_int) (pa_cons (pe_un un_neg pe_int) pa_nil)))) (pg_name (i := 5) nd rfl (Or.inl rfl))
        (pss_cons (ps_set (i := 6) nd rfl (Or.inl rfl) (pe_ix ix_list (pv 1) (pv 5) (fun _ _ => rfl)))
        (pss_cons (ps_set (i := 7) nd rfl (Or.inl rfl) (pe_ix ix_list (pv 3) (pv 5) (fun _ _ => rfl)))
        (pss_cons (ps_set (i := 8) nd rfl (Or.inl rfl) (pe_fn F_knot (hr.mono (by decide)) rfl (pa_cons (pe_fn F_mark (hr.mono (by decide)) rfl (pa_cons (pe_ix ix_list (pv 7) (pv 6) (fun _ _ => rfl)) pa_nil)) (pa_cons (pv 4) pa_nil))))
        (pss_one (ps_set (i := 4) nd rfl (Or.inl rfl) (pe_op op_cat (pe_op op_cat (pe_slice sl_list (pv 7) po_none (po_some (pv 6))) (pe_lst (pa_cons (pv 8) pa_nil))) (pe_slice sl_list (pv 7) (po_some (pe_op op_add (pv 6) pe_int)) po_none))))))))
      (pss_one (ps_ret (pv 4)))))), ?_⟩
    refine ⟨_, rfl, _, rfl, G, v, _, ts, p, rfl, sm, rv, ru, hd, hp, fun G1 H1 r1 x1 rr => ?_⟩
    cases rr with
    | @lst ba lvs _ hba rl =>
    refine fold_goal fun Zg hZg => ?_
    obtain ⟨za, zv, rfl, hza, rzs⟩ := rz.row
    refine hZg ?_
    clear hZg Zg
    -- changed = list(trees)
    refine ⟨_, rfl, za, zv, rfl, .inl (SqL.of (x1.gh _ _ (x1.g _ _ hza))), fun pc hpc => ?_⟩
    have x2 := x1.trans (Ext.add (o := .lst zv) x1.gh hpc)
    have s12 : Same G1 (upd G1 pc (.lst zv)) := (Ext.add (o := .lst zv) x1.gh hpc).g
    obtain ⟨un, hun⟩ := Option.isSome_iff_exists.mp hd
    have hpl : (p.map V.int).length = p.length := List.length_map ..
    -- for depth in range(len(path) - 1, -1, -1)
    have hn : (((p.map V.int).length : Int) - 1 - -1).toNat = p.length := by rw [hpl]; omega
    refine ⟨_, rfl, pa, _, rfl, .inl (SqL.of (x2.h _ _ (sm _ _ hpa))), _, _, rfl, rfl, _, rfl, _, rfl, _, _, rfl, (by rw [hpl]; omega), for_down
      (fun i σ H2 => ∃ (G2 : Hp) (cv : V) (us : List Tr) (a5 a6 a7 a8 : Option V), σ = [some v, some (.ref pa), some (.ref za), some (.ref ba), some cv, a5, a6, a7, a8] ∧ Ext G H G2 H2 ∧ Same G1 G2 ∧ down ts (p.take (p.length - i)) = some us ∧ Rep G2 cv (rowD (setAt us (p.drop (p.length - i)) xs)))
      ⟨_, .ref pc, un, none, none, none, none, rfl, x2, s12, ?_, ?_⟩ ?_ ?_⟩
    · rw [Nat.sub_zero, List.take_length]
      exact hun
    · rw [Nat.sub_zero, List.drop_length, setAt]
      exact .lst upd_same ((rzs.mono x1.g).mono s12)
    · intro i σ H2 hi hZp
      refine fold_goal fun Zg hZg => ?_
      obtain ⟨G2, cv, us, a5, a6, a7, a8, rfl, x, s1, hus, rc⟩ := hZp
      refine hZg ?_
      clear hZg Zg
      rw [hn] at hi
      have hdl : p.length - 1 - i < p.length := by omega
      generalize hdd : p.length - 1 - i = d at hdl
      have hdi : ((p.map V.int).length : Int) - 1 - (i : Int) = (d : Int) := by rw [hpl]; omega
      have hd1 : p.length - i = d + 1 := by omega
      have hd2 : p.length - (i + 1) = d := by omega
      rw [hd1] at hus rc
      rw [hdi]
      refine fold_goal fun Zg hZg => ?_
      obtain ⟨ls, t, hls, h0, ht, hk⟩ := down_at hd hdl
      refine hZg ?_
      clear hZg Zg
      obtain rfl : t.kids = us := Option.some.inj (hk.symm.trans hus)
      obtain ⟨lv, hlv, rlv⟩ := rl.get (i := d) (d := rowD ls) (by rw [List.getElem?_map, levelsOf_get (by omega) hls]; rfl)
      refine fold_goal fun Zg hZg => ?_
      obtain ⟨la, lvs', rfl, hla, rls⟩ := rlv.row
      refine hZg ?_
      clear hZg Zg
      obtain ⟨tr, htr, rtr⟩ := rls.get (i := (p[d]).toNat) (d := t.d) (by rw [List.getElem?_map, ht]; rfl)
      have hix : atI lvs' p[d] = some tr := by
        have := atI_nat htr
        rwa [Int.toNat_of_nonneg h0] at this
      have hll := rls.length
      rw [List.length_map] at hll
      have hkl := down_knots _ _ _ hls
      have hkk := length_le_knots ls
      obtain ⟨e, he⟩ : ∃ e : Nat, p[d] = (e : Int) := ⟨(p[d]).toNat, by omega⟩
      have het : (p[d]).toNat = e := by omega
      have hcut := setAt_cons (xs := xs) (p := p.drop (d + 1)) ht
      rw [het] at hcut
      have hsk : knotsOf (setAt t.kids (p.drop (d + 1)) xs) ≤ 3000 := by
        have e1 := down_append ts (p.take (d + 1)) (p.drop (d + 1))
        rw [List.take_append_drop, hus, hun] at e1
        have e2 := setAt_knots (p.drop (d + 1)) t.kids un xs e1.symm
        have e3 := down_knots _ _ _ hus
        omega
      have hcl := length_le_knots (setAt t.kids (p.drop (d + 1)) xs)
      refine ⟨_, rfl, _, rfl, pa, _, _, _, rfl, rfl, SqL.of (x.h _ _ (sm _ _ hpa)), ints_ix hdl, ?_⟩
      refine ⟨_, rfl, _, rfl, ba, lvs, _, _, rfl, rfl, SqL.of (x.gh _ _ (s1 _ _ hba)), atI_nat hlv, ?_⟩
      have hla2 := s1 _ _ hla
      refine ⟨_, rfl, _, rfl, la, lvs', _, tr, rfl, rfl, SqL.of (x.gh _ _ hla2), hix, G2, tr, t, rfl, x.gh, rtr.mono s1, ?_⟩
      refine ⟨_, rfl, G2, _, _, _, rfl, x.gh, rc, by omega, fun G3 H3 r3 x3 rr3 => ?_⟩
      have x4 := x.trans x3
      have hla3 := x3.g _ _ hla2
      rw [he]
      refine ⟨_, rfl, _, rfl, _, rfl, la, lvs', rfl, SqL.of (x4.gh _ _ hla3), fun q1 h1 => ?_⟩
      rw [cut_to]
      have x5 := x4.trans (Ext.tmp (o := .lst (lvs'.take e)) x4.gh h1)
      refine ⟨_, rfl, (by show 1 ≤ sizeLine; decide), fun q2 h2 => ?_⟩
      have x6 := x5.trans (Ext.tmp (o := .lst [r3]) x5.gh h2)
      refine ⟨q1, q2, _, _, rfl, rfl, same_upd h2 _ _ upd_same, upd_same, (by rw [List.length_take]; show _ + 1 ≤ sizeLine; omega), fun q3 h3 => ?_⟩
      have x7 := x6.trans (Ext.tmp (o := .lst (lvs'.take e ++ [r3])) x6.gh h3)
      refine ⟨_, rfl, _, rfl, _, _, rfl, rfl, _, rfl, la, lvs', rfl, SqL.of (x7.gh _ _ hla3), fun q4 h4 => ?_⟩
      have hc1 : (e : Int) + 1 = ((e + 1 : Nat) : Int) := by omega
      rw [hc1, cut_from]
      have x8 := x7.trans (Ext.tmp (o := .lst (lvs'.drop (e + 1))) x7.gh h4)
      refine ⟨q3, q4, _, _, rfl, rfl, same_upd h4 _ _ upd_same, upd_same, (by rw [List.length_append, List.length_take, List.length_drop]; show _ + 1 + _ ≤ sizeLine; omega), fun q5 h5 => ?_⟩
      have x9 := x8.trans (Ext.add (o := .lst (lvs'.take e ++ [r3] ++ lvs'.drop (e + 1))) x8.gh h5)
      have s9 : Same G3 (upd G3 q5 (.lst (lvs'.take e ++ [r3] ++ lvs'.drop (e + 1)))) := (Ext.add (o := .lst (lvs'.take e ++ [r3] ++ lvs'.drop (e + 1))) x8.gh h5).g
      refine ⟨_, .ref q5, ls, _, _, _, _, rfl, x9, (s1.trans x3.g).trans s9, by rw [hd2]; exact hls, ?_⟩
      rw [hd2, List.drop_eq_getElem_cons hdl, hcut]
      refine .lst upd_same ?_
      rw [List.map_append, List.map_append, List.map_take, List.map_drop]
      have rl9 := (rls.mono (s1.trans x3.g)).mono s9
      exact ((rl9.take e).append (.cons (rr3.mono s9) .nil)).append (rl9.drop (e + 1))
    · intro σ H2 hZp
      refine fold_goal fun Zg hZg => ?_
      obtain ⟨G2, cv, us, a5, a6, a7, a8, rfl, x, s1, hus, rc⟩ := hZp
      refine hZg ?_
      clear hZg Zg
      rw [hn, Nat.sub_self, List.take_zero] at hus
      obtain rfl : ts = us := Option.some.inj hus
      rw [hn, Nat.sub_self, List.drop_zero] at rc
      exact ⟨_, rfl, k _ _ _ x rc⟩
end
end K3
namespace K3
open PySem L2 TT
section
variable {P : Program} {w : World} {K : PySem.W.Frag} {mg : Str → Option Value} {base : Heap}
/-! ### how_many -/
noncomputable def spMany : Sp := fun vs H Q _ => ∃ (G : Hp) (u : V) (st : Stp), vs = [u] ∧ Same G H ∧ Rep G u st.d ∧ Q (.int st.many) H
theorem scMany : FnScope ["step"] ["step"] (defScope sMany) := ⟨rfl, rfl, rfl, by decide +kernel, rfl, by decide +kernel, by decide +kernel⟩
theorem put_of {G : Hp} {v : V} {p : List Int} {n : Int} {m : Str} (r : Rep G v (Stp.put p n m).d) : ∃ a pa, v = .ref a ∧ G a = some (.tup [.str (Str.ofString "put"), .ref pa, .int n, .str m]) := by
  cases r with
  | tup h t => cases t with
    | cons r1 t => cases t with
      | cons r2 t => cases t with
        | cons r3 t => cases t with
          | cons r4 t =>
            cases t; cases r1; cases r3; cases r4
            refine fold_goal fun Zg hZg => ?_
            obtain ⟨pa, rfl, _⟩ := Rep.path r2
            refine hZg ?_
            clear hZg Zg
            exact ⟨_, pa, rfl, h⟩
theorem mark_of_step {G : Hp} {v : V} {p : List Int} {m : Str} (r : Rep G v (Stp.mark p m).d) : ∃ a pa, v = .ref a ∧ G a = some (.tup [.str (Str.ofString "mark"), .ref pa, .str m]) := by
  cases r with
  | tup h t => cases t with
    | cons r1 t => cases t with
      | cons r2 t => cases t with
        | cons r3 t =>
          cases t; cases r1; cases r3
          refine fold_goal fun Zg hZg => ?_
          obtain ⟨pa, rfl, _⟩ := Rep.path r2
          refine hZg ?_
          clear hZg Zg
          exact ⟨_, pa, rfl, h⟩
theorem ok_many {f : Addr} {fd : FuncData} (F : Fun K "how_many" "how_many" sMany f fd) : FnOk P w K mg base CX0 3 f fd ["step"] spMany := by
  refine F.ok scMany (fun vs H Q E h => ?_) (fun cdv A outer s H vs Q E hr h => ?_)
  · refine fold_goal fun Zg hZg => ?_
    obtain ⟨G, u, st, rfl, _⟩ := h
    refine hZg ?_
    clear hZg Zg
    rfl
  · refine fold_goal fun Zg hZg => ?_
    obtain ⟨G, u, st, rfl, sm, r, k⟩ := h
    refine hZg ?_
    clear hZg Zg
    refine ⟨_, (pss_cons (ps_if (pt_cmpR op_eq (pe_ix ix_tup (pv 0) pe_int (fun _ _ => rfl)) pe_str (nomark _))
        (pss_one (ps_ret (pe_ix ix_tup (pv 0) pe_int (fun _ _ => rfl))))
        pss_nil)
      (pss_one (ps_ret pe_int))), ?_⟩
    refine fold_goal fun Zg hZg => ?_
    obtain ⟨a, xs, pa, rfl, ha, h0, h1, hp, hl⟩ := r.step
    refine hZg ?_
    clear hZg Zg
    refine ⟨_, rfl, a, xs, _, _, rfl, rfl, SqT.of (sm _ _ ha), atI_nat (j := 0) h0, rfl, _, rfl, ?_⟩
    cases st with
    | mark p m => exact iteF k
    | cut p => exact iteF k
    | put p n m =>
      refine iteT ?_
      refine fold_goal fun Zg hZg => ?_
      obtain ⟨a', pa', e, ha'⟩ := put_of r
      refine hZg ?_
      clear hZg Zg
      cases e
      rw [ha] at ha'
      cases ha'
      exact ⟨_, rfl, a, _, _, _, rfl, rfl, SqT.of (sm _ _ ha), atI_nat (j := 2) rfl, k⟩
/-! ### trees_instead -/
noncomputable def spInstead : Sp := fun vs H Q _ => ∃ (G : Hp) (u z : V) (st : Stp) (xs : List Tr), vs = [u, z] ∧ Same G H ∧ Rep G u st.d ∧ Rep G z (rowD xs) ∧ xs.length = st.many.toNat ∧ knotsOf xs ≤ 1000 ∧
  ∀ (G' H' : Hp) (r : V), Ext G H G' H' → Rep G' r (rowD (st.instead xs)) → Q r H'
theorem scInstead : FnScope ["step", "taken"] ["step", "taken"] (defScope sInstead) := ⟨rfl, rfl, rfl, by decide +kernel, rfl, by decide +kernel, by decide +kernel⟩
theorem ok_instead {f : Addr} {fd : FuncData} (F : Fun K "trees_instead" "trees_instead" sInstead f fd) (F_knot : Ok1 P w K mg base 3 "knot" ["mark", "trees"] spKnot) (F_tu : Ok1 P w K mg base 3 "trees_under" ["tree"] spTU) :
    FnOk P w K mg base CX0 5 f fd ["step", "taken"] spInstead := by
  refine F.ok scInstead (fun vs H Q E h => ?_) (fun cdv A outer s H vs Q E hr h => ?_)
  · refine fold_goal fun Zg hZg => ?_
    obtain ⟨G, u, z, st, xs, rfl, _⟩ := h
    refine hZg ?_
    clear hZg Zg
    rfl
  · refine fold_goal fun Zg hZg => ?_
    obtain ⟨G, u, z, st, xs, rfl, sm, r, rz, hl, hb, k⟩ := h
    refine hZg ?_
    clear hZg Zg
    refine ⟨_, (pss_cons (ps_if (pt_cmpR op_eq (pe_ix ix_tup (pv 0) pe_int (fun _ _ => rfl)) pe_str (nomark _))
        (pss_one (ps_ret (pe_lst (pa_cons (pe_fn F_knot (hr.mono (by decide)) rfl (pa_cons (pe_ix ix_tup (pv 0) pe_int (fun _ _ => rfl)) (pa_cons (pv 1) pa_nil))) pa_nil))))
        pss_nil)
      (pss_cons (ps_if (pt_cmpR op_eq (pe_ix ix_tup (pv 0) pe_int (fun _ _ => rfl)) pe_str (nomark _))
        (pss_one (ps_ret (pe_fn F_tu (hr.mono (by decide)) rfl (pa_cons (pe_ix ix_list (pv 1) pe_int (fun _ _ => rfl)) pa_nil))))
        pss_nil)
      (pss_one (ps_ret (pe_lst (pa_cons (pe_fn F_knot (hr.mono (by decide)) rfl (pa_cons (pe_ix ix_tup (pv 0) pe_int (fun _ _ => rfl)) (pa_cons (pe_fn F_tu (hr.mono (by decide)) rfl (pa_cons (pe_ix ix_list (pv 1) pe_int (fun _ _ => rfl)) pa_nil)) pa_nil))) pa_nil)))))), ?_⟩
    refine fold_goal fun Zg hZg => ?_
    obtain ⟨a, sx, pa, rfl, ha, h0, h1, hp, _⟩ := r.step
    refine hZg ?_
    clear hZg Zg
    refine fold_goal fun Zg hZg => ?_
    obtain ⟨za, zv, rfl, hza, rzs⟩ := rz.row
    refine hZg ?_
    clear hZg Zg
    have one : ∀ (t : Tr) (rest : List Tr), xs = t :: rest → ∃ tv, atI zv 0 = some tv ∧ Rep G tv t.d := fun t rest e => by
      subst e
      refine fold_goal fun Zg hZg => ?_
      obtain ⟨tv, htv, rtv⟩ := rzs.get (i := 0) (d := t.d) rfl
      refine hZg ?_
      clear hZg Zg
      exact ⟨tv, atI_nat (j := 0) htv, rtv⟩
    refine ⟨_, rfl, a, sx, _, _, rfl, rfl, SqT.of (sm _ _ ha), atI_nat (j := 0) h0, rfl, _, rfl, ?_⟩
    cases st with
    | put p n m =>
      refine iteT ?_
      refine fold_goal fun Zg hZg => ?_
      obtain ⟨a', pa', e, ha'⟩ := put_of r
      refine hZg ?_
      clear hZg Zg
      cases e
      rw [ha] at ha'
      cases ha'
      refine ⟨_, rfl, a, _, _, _, rfl, rfl, SqT.of (sm _ _ ha), atI_nat (j := 3) rfl, _, rfl, G, m, _, xs, rfl, sm, rz, (by have := length_le_knots xs; omega), fun G1 H1 r1 x1 rr => ?_⟩
      refine ⟨by show 1 ≤ sizeLine; decide, fun q1 h1 => ?_⟩
      have x2 := x1.trans (Ext.add (o := .lst [r1]) x1.gh h1)
      exact k _ _ _ x2 (.lst upd_same (.cons (rr.mono (Ext.add (o := .lst [r1]) x1.gh h1).g) .nil))
    | cut p =>
      refine iteF ⟨_, rfl, a, sx, _, _, rfl, rfl, SqT.of (sm _ _ ha), atI_nat (j := 0) h0, rfl, _, rfl, iteT ?_⟩
      match xs, hl, one, k with
      | t :: rest, hl, one, k =>
        refine fold_goal fun Zg hZg => ?_
        obtain ⟨tv, htv, rtv⟩ := one t rest rfl
        refine hZg ?_
        clear hZg Zg
        exact ⟨_, rfl, za, zv, _, tv, rfl, rfl, SqL.of (sm _ _ hza), htv, G, tv, t, rfl, sm, rtv, fun G1 H1 r1 x1 rr => k _ _ _ x1 rr⟩
      | [], hl, _, _ => exact absurd (show (0 : Nat) = 1 from hl) (by decide)
    | mark p m =>
      refine iteF ⟨_, rfl, a, sx, _, _, rfl, rfl, SqT.of (sm _ _ ha), atI_nat (j := 0) h0, rfl, _, rfl, iteF ?_⟩
      refine fold_goal fun Zg hZg => ?_
      obtain ⟨a', pa', e, ha'⟩ := mark_of_step r
      refine hZg ?_
      clear hZg Zg
      cases e
      rw [ha] at ha'
      cases ha'
      match xs, hl, one, k, hb with
      | t :: rest, hl, one, k, hb =>
        refine fold_goal fun Zg hZg => ?_
        obtain ⟨tv, htv, rtv⟩ := one t rest rfl
        refine hZg ?_
        clear hZg Zg
        refine ⟨_, rfl, a, _, _, _, rfl, rfl, SqT.of (sm _ _ ha), atI_nat (j := 2) rfl, _, rfl, za, zv, _, tv, rfl, rfl, SqL.of (sm _ _ hza), htv, G, tv, t, rfl, sm, rtv, fun G1 H1 r1 x1 rr => ?_⟩
        have hk : t.kids.length ≤ 100000 := by
          have h1 := length_le_knots t.kids
          rw [knotsOf, knots_eq] at hb
          omega
        refine ⟨G1, m, r1, t.kids, rfl, x1.gh, rr, hk, fun G2 H2 r2 x2 rr2 => ?_⟩
        refine ⟨by show 1 ≤ sizeLine; decide, fun q1 h1 => ?_⟩
        have x3 := (x1.trans x2).trans (Ext.add (o := .lst [r2]) x2.gh h1)
        exact k _ _ _ x3 (.lst upd_same (.cons (rr2.mono (Ext.add (o := .lst [r2]) x2.gh h1).g) .nil))
      | [], hl, _, _, _ => exact absurd (show (0 : Nat) = 1 from hl) (by decide)
end
end K3
namespace K3
open PySem L2 TT
section
variable {P : Program} {w : World} {K : PySem.W.Frag} {mg : Str → Option Value} {base : Heap}
theorem cut_mid (xs : List V) (i n : Nat) (h : i + n ≤ xs.length) : cutV xs (some (i : Int)) (some ((i + n : Nat) : Int)) = (xs.drop i).take n := by
  unfold cutV
  rw [HT.sIx_nat, HT.sIx_nat, Nat.min_eq_left h, Nat.min_eq_left (show i ≤ xs.length by omega)]
  congr 1
  omega
/-! ### trees_taken -/
noncomputable def Stp.taken (st : Stp) (bs : List Tr) : List Tr := (bs.drop (st.path.getLastD 0).toNat).take st.many.toNat
noncomputable def spTaken (C : Addr) : Sp := fun vs H Q E => ∃ (G : Hp) (v u : V) (ts : List Tr) (st : Stp), vs = [v, u] ∧ Same G H ∧ Rep G v (rowD ts) ∧ Rep G u st.d ∧ st.Fit ∧ knotsOf ts ≤ 1000 ∧
  (∀ bs, st.beside ts = some bs → ∀ (G' H' : Hp) (r : V), Ext G H G' H' → Rep G' r (rowD (Stp.taken st bs)) → Q r H') ∧ (st.beside ts = none → ∀ H' : Hp, Same H H' → E (.ref C) none H')
theorem scTaken : FnScope ["row", "step", "path", "place", "many", "beside"] ["row", "step"] (defScope sTaken) := ⟨rfl, rfl, rfl, by decide +kernel, rfl, by decide +kernel, by decide +kernel⟩
theorem ok_taken {C : Addr} {f : Addr} {fd : FuncData} (F : Fun K "trees_taken" "trees_taken" sTaken f fd) (T : Txt mg) (hC : ExcV K C) (mC : mg "NoStep" = some (.ref C)) (F_leads : Ok1 P w K mg base 5 "leads" ["row", "path"] spLeads)
    (F_many : Ok1 P w K mg base 3 "how_many" ["step"] spMany) (F_at : Ok1 P w K mg base 7 "trees_at" ["row", "path"] spAt) : FnOk P w K mg base (CXr P w) 9 f fd ["row", "step"] (spTaken C) := by
  refine fun_okR F scTaken (fun vs H Q E h => ?_) (fun cdv A outer s H vs Q E hr h => ?_)
  · refine fold_goal fun Zg hZg => ?_
    obtain ⟨G, v, u, ts, st, rfl, _⟩ := h
    refine hZg ?_
    clear hZg Zg
    rfl
  · refine fold_goal fun Zg hZg => ?_
    obtain ⟨G, v, u, ts, st, rfl, sm, rv, ru, hfit, hkt, kq, ke⟩ := h
    refine hZg ?_
    clear hZg Zg
    have nd := scTaken.nd
    have big := line_big
    refine fold_goal fun Zg hZg => ?_
    obtain ⟨hpl, hps, hms⟩ := hfit
    refine hZg ?_
    clear hZg Zg
    refine ⟨_, (pss_cons (ps_set (i := 2) nd rfl (Or.inl rfl) (pe_ix ix_tup (pv 1) pe_int (fun _ _ => rfl)))
      (pss_cons (ps_if (pt_not (pt_truth (pv 2) (fun _ => rfl)))
        (pss_one (ps_raise raises_cx hC rfl rfl mC (pa_cons pe_str pa_nil)))
        pss_nil)
      (pss_cons (ps_if (pt_not (pt_val (pe_fn F_leads (hr.mono (by decide)) rfl (pa_cons (pv 0) (pa_cons (pe_slice sl_list (pv 2) po_none (po_some (pe_un un_neg pe_int))) pa_nil)))))
        (pss_one (ps_raise raises_cx hC rfl rfl mC (pa_cons (pe_fstr (pfs_cons (pf_text (n := 100) (by decide)) (pfs_cons (pf_list hr (pv 2)) (pfs_cons (pf_text (n := 100) (by decide)) pfs_nil))) (by decide)) pa_nil)))
        pss_nil)
      (pss_cons (ps_set (i := 3) nd rfl (Or.inl rfl) (pe_ix ix_list (pv 2) (pe_un un_neg pe_int) (fun _ _ => rfl)))
      (pss_cons (ps_set (i := 4) nd rfl (Or.inl rfl) (pe_fn F_many (hr.mono (by decide)) rfl (pa_cons (pv 1) pa_nil)))
      (pss_cons (ps_set (i := 5) nd rfl (Or.inl rfl) (pe_fn F_at (hr.mono (by decide)) rfl (pa_cons (pv 0) (pa_cons (pe_slice sl_list (pv 2) po_none (po_some (pe_un un_neg pe_int))) pa_nil))))
      (pss_cons (ps_if (PW.pt (pw_or (pt_cmpR op_lt (pv 3) pe_int (nomark _)) (pw_or (pt_cmpR op_lt (pv 4) pe_int (nomark _)) (pw_or1 (pt_cmpR op_gt (pe_op op_add (pv 3) (pv 4)) (pe_callB call_len_seq rfl T.len bt_len (pa_cons (pv 5) pa_nil)) (nomark _))))))
        (pss_one (ps_raise raises_cx hC rfl rfl mC (pa_cons (pe_fstr (pfs_cons (pf_text (n := 100) (by decide)) (pfs_cons (pf_int (pv 4)) (pfs_cons (pf_text (n := 100) (by decide)) (pfs_cons (pf_list hr (pv 2)) pfs_nil)))) (by decide)) pa_nil)))
        pss_nil)
      (pss_one (ps_ret (pe_slice sl_list (pv 5) (po_some (pv 3)) (po_some (pe_op op_add (pv 3) (pv 4))))))))))))), ?_⟩
    refine fold_goal fun Zg hZg => ?_
    obtain ⟨a, sx, pa, rfl, ha, h0, h1, hp, _⟩ := ru.step
    refine hZg ?_
    clear hZg Zg
    have hpH := sm _ _ hp
    -- path = step[1]
    try dsimp only
    refine seq_gen fun Ra hna hra => ?_
    refine ⟨_, rfl, a, sx, _, _, rfl, rfl, SqT.of (sm _ _ ha), atI_nat (j := 1) h1, ?_⟩
    -- if not path
    refine hna _ _ ?_
    clear hna hra Ra
    try dsimp only
    refine seq_gen fun Rb hnb hrb => ?_
    refine ⟨_, rfl, _, .inl ⟨_, SqL.of hpH, rfl⟩, ?_⟩
    cases hq : (st.path.map V.int).isEmpty with
    | true =>
      refine iteT ⟨by show 1 ≤ sizeLine; decide, ke ?_ H (Same.refl _)⟩
      unfold Stp.beside
      rw [if_pos (by simpa using hq)]
    | false =>
    have hpe : st.path ≠ [] := fun z => by rw [z] at hq; cases hq
    refine iteF ?_
    -- if not leads(row, path[:-1])
    refine hnb _ _ ?_
    clear hnb hrb Rb
    try dsimp only
    refine seq_gen fun Rc hnc hrc => ?_
    refine ⟨_, rfl, _, rfl, _, rfl, _, rfl, pa, _, rfl, SqL.of hpH, fun q1 h1 => ?_⟩
    rw [front_ints]
    have x1 := Ext.add (o := .lst (st.path.dropLast.map V.int)) sm h1
    have R1 : Rep (upd G q1 (.lst (st.path.dropLast.map V.int))) (.ref q1) (pathD st.path.dropLast) := .lst upd_same (ints_reps _)
    refine ⟨_, v, _, ts, st.path.dropLast, rfl, x1.gh, rv.mono x1.g, R1, fun H2 s2 => ⟨_, rfl, ?_⟩⟩
    have x2 : Ext G H (upd G q1 (.lst (st.path.dropLast.map V.int))) H2 := ⟨x1.g, x1.gh.trans s2, x1.h.trans s2, x1.new⟩
    have hp2 := x2.gh _ _ (x2.g _ _ hp)
    cases hd : down ts st.path.dropLast with
    | none =>
      refine iteT ⟨⟨trivial, ⟨pa, st.path, rfl, SqL.of hp2, hpl, hps⟩, trivial, trivial⟩, fun y => ⟨by show 1 ≤ sizeLine; decide, ke ?_ H2 x2.h⟩⟩
      unfold Stp.beside
      rw [if_neg hpe, hd]
      rfl
    | some bs =>
    refine iteF ?_
    -- place = path[-1]
    refine hnc _ _ ?_
    clear hnc hrc Rc
    try dsimp only
    refine seq_gen fun Rd hnd hrd => ?_
    refine ⟨_, rfl, _, rfl, pa, _, _, _, rfl, rfl, SqL.of hp2, last_int hpe, ?_⟩
    -- many = how_many(step)
    refine hnd _ _ ?_
    clear hnd hrd Rd
    try dsimp only
    refine seq_gen fun Re hne hre => ?_
    refine ⟨_, rfl, _, _, st, rfl, x2.gh, ru.mono x2.g, ?_⟩
    -- beside = trees_at(row, path[:-1])
    refine hne _ _ ?_
    clear hne hre Re
    try dsimp only
    refine seq_gen fun Rf hnf hrf => ?_
    refine ⟨_, rfl, _, rfl, _, rfl, _, rfl, pa, _, rfl, SqL.of hp2, fun q2 h2 => ?_⟩
    rw [front_ints]
    have x3 := x2.trans (Ext.add (o := .lst (st.path.dropLast.map V.int)) x2.gh h2)
    refine ⟨_, v, _, ts, bs, st.path.dropLast, rfl, x3.gh, rv.mono x3.g, .lst upd_same (ints_reps _), hd, (by rw [List.length_dropLast]; omega), fun G4 H4 r x4 rb => ?_⟩
    have x5 := x3.trans x4
    have hp5 := x5.gh _ _ (x5.g _ _ hp)
    refine fold_goal fun Zg hZg => ?_
    obtain ⟨ba, bvs, rfl, hba, rbs⟩ := rb.row
    refine hZg ?_
    clear hZg Zg
    have hbl := rbs.length
    rw [List.length_map] at hbl
    have none_if : (st.path.getLastD 0 < 0 ∨ st.many < 0 ∨ (bs.length : Int) < st.path.getLastD 0 + st.many) → st.beside ts = none := fun h => by
      unfold Stp.beside
      rw [if_neg hpe, hd, Option.bind_some, if_pos h]
    have fin : st.beside ts = none → ∀ σ : L2.St, σ[2]? = some (some (.ref pa)) → σ[4]? = some (some (.int st.many)) → (fun (_ : L2.St) (_ : Hp) => True) σ H4 ∧ (∃ a, σ[4]? = some (some (.int a)) ∧ Small a) ∧ True ∧ (∃ (a : Addr) (ns : List Int), σ[2]? = some (some (.ref a)) ∧ SqL K H4 a (ns.map V.int) ∧ ns.length ≤ 1000 ∧ ∀ b ∈ ns, Small b) ∧ True :=
      fun _ σ e2 e4 => ⟨trivial, ⟨_, e4, hms⟩, trivial, ⟨pa, st.path, e2, SqL.of hp5, hpl, hps⟩, trivial⟩
    -- if place < 0 or many < 0 or place + many > len(beside)
    refine hnf _ _ ?_
    clear hnf hrf Rf
    try dsimp only
    refine seq_gen fun Rg hng hrg => ?_
    refine ⟨_, rfl, _, _, rfl, rfl, _, rfl, ?_⟩
    refine ite2 (fun hlt => ?_) (fun hlt => ?_)
    · have hb := none_if (.inl (of_decide_eq_true hlt))
      exact iteT ⟨fin hb _ rfl rfl, fun y => ⟨by show 1 ≤ sizeLine; decide, ke hb H4 x5.h⟩⟩
    · have n1 : ¬ st.path.getLastD 0 < 0 := fun z => hlt (decide_eq_true z)
      refine ⟨_, rfl, _, _, rfl, rfl, _, rfl, ?_⟩
      refine ite2 (fun hlt2 => ?_) (fun hlt2 => ?_)
      · have hb := none_if (.inr (.inl (of_decide_eq_true hlt2)))
        exact iteT ⟨fin hb _ rfl rfl, fun y => ⟨by show 1 ≤ sizeLine; decide, ke hb H4 x5.h⟩⟩
      · have n2 : ¬ st.many < 0 := fun z => hlt2 (decide_eq_true z)
        refine ⟨_, rfl, _, rfl, _, _, rfl, rfl, _, rfl, ba, bvs, rfl, .inl (SqL.of (x5.gh _ _ hba)), _, _, rfl, rfl, _, rfl, ?_⟩
        refine ite2 (fun hgt => ?_) (fun hgt => ?_)
        · have hg := of_decide_eq_true hgt
          have hb := none_if (.inr (.inr (by rw [← hbl]; exact hg)))
          exact ⟨fin hb _ rfl rfl, fun y => ⟨by show 1 ≤ sizeLine; decide, ke hb H4 x5.h⟩⟩
        · have n3 : ¬ (bvs.length : Int) < st.path.getLastD 0 + st.many := fun z => hgt (decide_eq_true z)
          have hb : st.beside ts = some bs := by
            unfold Stp.beside
            rw [if_neg hpe, hd, Option.bind_some, if_neg (by rw [← hbl]; omega)]
          obtain ⟨i, hi⟩ : ∃ i : Nat, st.path.getLastD 0 = (i : Int) := ⟨(st.path.getLastD 0).toNat, by omega⟩
          obtain ⟨n, hn⟩ : ∃ n : Nat, st.many = (n : Int) := ⟨st.many.toNat, by omega⟩
          refine hng _ _ ?_
          clear hng hrg Rg
          refine ⟨_, rfl, _, rfl, _, rfl, _, rfl, _, rfl, _, _, rfl, rfl, _, rfl, ba, bvs, rfl, SqL.of (x5.gh _ _ hba), fun q3 h3 => ?_⟩
          have hin : (i : Int) + (n : Int) = ((i + n : Nat) : Int) := by omega
          rw [hi, hn, hin, cut_mid bvs i n (by omega)]
          have x6 := x5.trans (Ext.add (o := .lst ((bvs.drop i).take n)) x5.gh h3)
          refine kq bs hb _ _ _ x6 (.lst upd_same ?_)
          unfold Stp.taken
          rw [hi, hn, Int.toNat_natCast, Int.toNat_natCast, List.map_take, List.map_drop]
          exact ((rbs.drop i).take n).mono (Ext.add (o := .lst ((bvs.drop i).take n)) x5.gh h3).g
/-! ### done -/
theorem mid_knots (bs : List Tr) (i n : Nat) : knotsOf (bs.take i) + knotsOf ((bs.drop i).take n) + knotsOf (bs.drop (i + n)) = knotsOf bs := by
  have h1 := knotsOf_append (bs.take i) (bs.drop i)
  have h2 := knotsOf_append ((bs.drop i).take n) ((bs.drop i).drop n)
  rw [List.take_append_drop] at h1 h2
  rw [List.drop_drop] at h2
  omega
theorem instead_knots (st : Stp) (xs : List Tr) : knotsOf (st.instead xs) ≤ knotsOf xs + 1 := by
  cases st with
  | mark p m =>
    cases xs with
    | nil => exact Nat.zero_le _
    | cons t r => simp only [Stp.instead, knotsOf, Tr.knots, knots_eq]; omega
  | cut p =>
    cases xs with
    | nil => exact Nat.zero_le _
    | cons t r => simp only [Stp.instead, knotsOf, knots_eq]; omega
  | put p n m => simp only [Stp.instead, knotsOf, Tr.knots]; omega
theorem beside_some {st : Stp} {ts bs : List Tr} (h : st.beside ts = some bs) : st.path ≠ [] ∧ down ts st.path.dropLast = some bs ∧ 0 ≤ st.path.getLastD 0 ∧ 0 ≤ st.many ∧ st.path.getLastD 0 + st.many ≤ bs.length := by
  unfold Stp.beside at h
  by_cases hp : st.path = []
  · rw [if_pos hp] at h; cases h
  · rw [if_neg hp] at h
    cases hd : down ts st.path.dropLast with
    | none => rw [hd] at h; cases h
    | some us =>
      rw [hd, Option.bind_some] at h
      by_cases hc : st.path.getLastD 0 < 0 ∨ st.many < 0 ∨ (us.length : Int) < st.path.getLastD 0 + st.many
      · rw [if_pos hc] at h; cases h
      · rw [if_neg hc] at h
        cases h
        exact ⟨hp, rfl, by omega, by omega, by omega⟩
noncomputable def spDone (C : Addr) : Sp := fun vs H Q E => ∃ (G : Hp) (v u : V) (ts : List Tr) (st : Stp), vs = [v, u] ∧ Same G H ∧ Rep G v (rowD ts) ∧ Rep G u st.d ∧ st.Fit ∧ knotsOf ts ≤ 900 ∧
  (∀ bs, st.beside ts = some bs → ∀ (G' H' : Hp) (r : V), Ext G H G' H' → Rep G' r (rowD (st.row ts bs)) → Q r H') ∧ (st.beside ts = none → ∀ H' : Hp, Same H H' → E (.ref C) none H')
theorem scDone : FnScope ["row", "step", "taken", "path", "place", "beside", "changed"] ["row", "step"] (defScope sDone) := ⟨rfl, rfl, rfl, by decide +kernel, rfl, by decide +kernel, by decide +kernel⟩
theorem ok_done {C : Addr} {f : Addr} {fd : FuncData} (F : Fun K "done" "done" sDone f fd) (T : Txt mg) (F_taken : OkR P w K mg base 9 "trees_taken" ["row", "step"] (spTaken C)) (F_at : Ok1 P w K mg base 7 "trees_at" ["row", "path"] spAt)
    (F_instead : Ok1 P w K mg base 5 "trees_instead" ["step", "taken"] spInstead) (F_with : Ok1 P w K mg base 7 "with_trees_at" ["row", "path", "trees"] spWith) : FnOk P w K mg base (CXr P w) 11 f fd ["row", "step"] (spDone C) := by
  refine fun_okR F scDone (fun vs H Q E h => ?_) (fun cdv A outer s H vs Q E hr h => ?_)
  · refine fold_goal fun Zg hZg => ?_
    obtain ⟨G, v, u, ts, st, rfl, _⟩ := h
    refine hZg ?_
    clear hZg Zg
    rfl
  · refine fold_goal fun Zg hZg => ?_
    obtain ⟨G, v, u, ts, st, rfl, sm, rv, ru, hfit, hkt, kq, ke⟩ := h
    refine hZg ?_
    clear hZg Zg
    have nd := scDone.nd
    have big := line_big
    refine ⟨_, (pss_cons (ps_set (i := 2) nd rfl (Or.inl rfl) (pe_fnR F_taken passes_cx (hr.mono (by decide)) rfl (pa_cons (pv 0) (pa_cons (pv 1) pa_nil))))
      (pss_cons (ps_set (i := 3) nd rfl (Or.inl rfl) (pe_ix ix_tup (pv 1) pe_int (fun _ _ => rfl)))
      (pss_cons (ps_set (i := 4) nd rfl (Or.inl rfl) (pe_ix ix_list (pv 3) (pe_un un_neg pe_int) (fun _ _ => rfl)))
      (pss_cons (ps_set (i := 5) nd rfl (Or.inl rfl) (pe_fn F_at (hr.mono (by decide)) rfl (pa_cons (pv 0) (pa_cons (pe_slice sl_list (pv 3) po_none (po_some (pe_un un_neg pe_int))) pa_nil))))
      (pss_cons (ps_set (i := 6) nd rfl (Or.inl rfl) (pe_op op_cat (pe_op op_cat (pe_slice sl_list (pv 5) po_none (po_some (pv 4))) (pe_fn F_instead (hr.mono (by decide)) rfl (pa_cons (pv 1) (pa_cons (pv 2) pa_nil)))) (pe_slice sl_list (pv 5) (po_some (pe_op op_add (pv 4) (pe_callB call_len_seq rfl T.len bt_len (pa_cons (pv 2) pa_nil)))) po_none)))
      (pss_one (ps_ret (pe_fn F_with (hr.mono (by decide)) rfl (pa_cons (pv 0) (pa_cons (pe_slice sl_list (pv 3) po_none (po_some (pe_un un_neg pe_int))) (pa_cons (pv 6) pa_nil))))))))))), ?_⟩
    refine fold_goal fun Zg hZg => ?_
    obtain ⟨a, sx, pa, rfl, ha, h0, h1, hp, _⟩ := ru.step
    refine hZg ?_
    clear hZg Zg
    -- taken = trees_taken(row, step)
    try dsimp only
    refine seq_gen fun Ra hna hra => ?_
    refine ⟨_, rfl, _, rfl, G, v, _, ts, st, rfl, sm, rv, ru, hfit, by omega, fun bs hb G1 H1 r1 x1 rt => ?_, ke⟩
    refine fold_goal fun Zg hZg => ?_
    obtain ⟨hpe, hd, hi0, hn0, hle⟩ := beside_some hb
    refine hZg ?_
    clear hZg Zg
    obtain ⟨i, hi⟩ : ∃ i : Nat, st.path.getLastD 0 = (i : Int) := ⟨(st.path.getLastD 0).toNat, by omega⟩
    obtain ⟨n, hn⟩ : ∃ n : Nat, st.many = (n : Int) := ⟨st.many.toNat, by omega⟩
    have htk : Stp.taken st bs = (bs.drop i).take n := by unfold Stp.taken; rw [hi, hn]; rfl
    have htl : (Stp.taken st bs).length = n := by rw [htk, List.length_take, List.length_drop]; omega
    have hkb := down_knots _ _ _ hd
    have hmid := mid_knots bs i n
    rw [← htk] at hmid
    have hins := instead_knots st (Stp.taken st bs)
    have hkbl := length_le_knots bs
    have hkil := length_le_knots (st.instead (Stp.taken st bs))
    refine fold_goal fun Zg hZg => ?_
    obtain ⟨ta, tvs, rfl, hta, rts⟩ := rt.row
    refine hZg ?_
    clear hZg Zg
    have htvl := rts.length
    rw [List.length_map, htl] at htvl
    have hp1 := x1.gh _ _ (x1.g _ _ hp)
    -- path, place
    refine hna _ _ ?_
    clear hna hra Ra
    refine ⟨_, rfl, a, sx, _, _, rfl, rfl, SqT.of (x1.gh _ _ (x1.g _ _ ha)), atI_nat (j := 1) h1, ?_⟩
    refine ⟨_, rfl, _, rfl, pa, _, _, _, rfl, rfl, SqL.of hp1, last_int hpe, ?_⟩
    -- beside
    try dsimp only
    refine seq_gen fun Rc hnc hrc => ?_
    refine ⟨_, rfl, _, rfl, _, rfl, _, rfl, pa, _, rfl, SqL.of hp1, fun q2 h2 => ?_⟩
    rw [front_ints]
    have x3 := x1.trans (Ext.add (o := .lst (st.path.dropLast.map V.int)) x1.gh h2)
    have hdl : st.path.dropLast.length ≤ 1000 := by rw [List.length_dropLast]; have := hfit.1; omega
    refine ⟨_, v, _, ts, bs, st.path.dropLast, rfl, x3.gh, rv.mono x3.g, .lst upd_same (ints_reps _), hd, hdl, fun G4 H4 r x4 rb => ?_⟩
    have x5 := x3.trans x4
    have s35 : Same G1 G4 := (Ext.add (o := .lst (st.path.dropLast.map V.int)) x1.gh h2).g.trans x4.g
    refine fold_goal fun Zg hZg => ?_
    obtain ⟨ba, bvs, rfl, hba, rbs⟩ := rb.row
    refine hZg ?_
    clear hZg Zg
    have hbl := rbs.length
    rw [List.length_map] at hbl
    -- changed
    refine hnc _ _ ?_
    clear hnc hrc Rc
    try dsimp only
    refine seq_gen fun Rd hnd hrd => ?_
    rw [hi]
    refine ⟨_, rfl, _, rfl, _, rfl, ba, bvs, rfl, SqL.of (x5.gh _ _ hba), fun q3 h3 => ?_⟩
    rw [cut_to]
    have x6 := x5.trans (Ext.tmp (o := .lst (bvs.take i)) x5.gh h3)
    refine ⟨_, rfl, _, rfl, G4, _, _, st, Stp.taken st bs, rfl, x6.gh, ru.mono x5.g, rt.mono s35, (by rw [htl, hn]; rfl), (by omega), fun G7 H7 r7 x7 rr7 => ?_⟩
    have x8 := x6.trans x7
    refine fold_goal fun Zg hZg => ?_
    obtain ⟨ia, ivs, rfl, hia, ris⟩ := rr7.row
    refine hZg ?_
    clear hZg Zg
    have hil := ris.length
    rw [List.length_map] at hil
    have hq3 : H7 q3 = some (.lst (bvs.take i)) := x7.h _ _ upd_same
    refine ⟨q3, ia, _, _, rfl, rfl, hq3, x8.gh _ _ hia, (by rw [List.length_take]; omega), fun q8 h8 => ?_⟩
    have x9 := x8.trans (Ext.tmp (o := .lst (bvs.take i ++ ivs)) x8.gh h8)
    have hba9 := x7.g _ _ hba
    refine ⟨_, rfl, _, rfl, _, rfl, ta, tvs, rfl, .inl (SqL.of (x9.gh _ _ (x7.g _ _ (s35 _ _ hta)))), _, _, rfl, rfl, _, rfl, ba, bvs, rfl, SqL.of (x9.gh _ _ hba9), fun q9 h9 => ?_⟩
    have hin : (i : Int) + (tvs.length : Int) = ((i + n : Nat) : Int) := by omega
    rw [hin, cut_from]
    have x10 := x9.trans (Ext.tmp (o := .lst (bvs.drop (i + n))) x9.gh h9)
    refine ⟨q8, q9, _, _, rfl, rfl, same_upd h9 _ _ upd_same, upd_same, (by rw [List.length_append, List.length_take, List.length_drop]; omega), fun q10 h10 => ?_⟩
    have y11 := Ext.add (o := .lst (bvs.take i ++ ivs ++ bvs.drop (i + n))) x10.gh h10
    have x11 := x10.trans y11
    have rbs7 := rbs.mono (x7.g.trans y11.g)
    have RC : Rep (upd G7 q10 (.lst (bvs.take i ++ ivs ++ bvs.drop (i + n)))) (.ref q10) (rowD (bs.take i ++ st.instead (Stp.taken st bs) ++ bs.drop (i + n))) := by
      refine .lst upd_same ?_
      rw [List.map_append, List.map_append, List.map_take, List.map_drop]
      exact ((rbs7.take i).append (ris.mono y11.g)).append (rbs7.drop (i + n))
    -- return with_trees_at(row, path[:-1], changed)
    refine hnd _ _ ?_
    clear hnd hrd Rd
    refine ⟨_, rfl, _, rfl, _, rfl, _, rfl, pa, _, rfl, SqL.of (x11.gh _ _ (x11.g _ _ hp)), fun q11 h11 => ?_⟩
    rw [front_ints]
    have y12 := Ext.add (o := .lst (st.path.dropLast.map V.int)) x11.gh h11
    have x12 := x11.trans y12
    refine ⟨_, rfl, _, v, _, _, ts, bs.take i ++ st.instead (Stp.taken st bs) ++ bs.drop (i + n), st.path.dropLast, rfl, x12.gh, rv.mono x12.g, .lst upd_same (ints_reps _), RC.mono y12.g, (by rw [hd]; rfl), hdl, (by omega), (by rw [knotsOf_append, knotsOf_append]; omega), fun G13 H13 r13 x13 rr13 => ?_⟩
    refine kq bs hb _ _ _ (x12.trans x13) ?_
    unfold Stp.row
    rw [hi, hn]
    unfold Stp.taken at rr13
    rw [hi, hn] at rr13
    exact rr13
end
end K3
namespace K3
open PySem L2 TT
theorem row_knots {st : Stp} {ts bs : List Tr} (h : st.beside ts = some bs) : knotsOf (st.row ts bs) ≤ knotsOf ts + 1 := by
  refine fold_goal fun Zg hZg => ?_
  obtain ⟨_, hd, hi0, hn0, hle⟩ := beside_some h
  refine hZg ?_
  clear hZg Zg
  have h1 := mid_knots bs (st.path.getLastD 0).toNat st.many.toNat
  have h2 := instead_knots st ((bs.drop (st.path.getLastD 0).toNat).take st.many.toNat)
  have h3 := setAt_knots st.path.dropLast ts bs (bs.take (st.path.getLastD 0).toNat ++ st.instead ((bs.drop (st.path.getLastD 0).toNat).take st.many.toNat) ++ bs.drop ((st.path.getLastD 0).toNat + st.many.toNat)) hd
  rw [knotsOf_append, knotsOf_append] at h3
  unfold Stp.row
  omega
section
variable {P : Program} {w : World} {K : PySem.W.Frag} {mg : Str → Option Value} {base : Heap}
/-! ### led_back -/
noncomputable def spLed (C : Addr) : Sp := fun vs H Q E => ∃ (G : Hp) (v u : V) (ts : List Tr) (st : Stp), vs = [v, u] ∧ Same G H ∧ Rep G v (rowD ts) ∧ Rep G u st.d ∧ st.Fit ∧ knotsOf ts ≤ 900 ∧
  (∀ bs, st.beside ts = some bs → ∀ (G' H' : Hp) (r : V), Ext G H G' H' → Rep G' r (st.back (Stp.taken st bs)).d → Q r H') ∧ (st.beside ts = none → ∀ H' : Hp, Same H H' → E (.ref C) none H')
theorem scLed : FnScope ["row", "step", "taken", "path", "tree"] ["row", "step"] (defScope sLed) := ⟨rfl, rfl, rfl, by decide +kernel, rfl, by decide +kernel, by decide +kernel⟩
theorem ok_led {C : Addr} {f : Addr} {fd : FuncData} (F : Fun K "led_back" "led_back" sLed f fd) (T : Txt mg) (F_taken : OkR P w K mg base 9 "trees_taken" ["row", "step"] (spTaken C)) (F_tu : Ok1 P w K mg base 3 "trees_under" ["tree"] spTU)
    (F_mark : Ok1 P w K mg base 3 "mark_of" ["tree"] spMark) : FnOk P w K mg base (CXr P w) 11 f fd ["row", "step"] (spLed C) := by
  refine fun_okR F scLed (fun vs H Q E h => ?_) (fun cdv A outer s H vs Q E hr h => ?_)
  · refine fold_goal fun Zg hZg => ?_
    obtain ⟨G, v, u, ts, st, rfl, _⟩ := h
    refine hZg ?_
    clear hZg Zg
    rfl
  · refine fold_goal fun Zg hZg => ?_
    obtain ⟨G, v, u, ts, st, rfl, sm, rv, ru, hfit, hkt, kq, ke⟩ := h
    refine hZg ?_
    clear hZg Zg
    have nd := scLed.nd
    have big := line_big
    refine ⟨_, (pss_cons (ps_set (i := 2) nd rfl (Or.inl rfl) (pe_fnR F_taken passes_cx (hr.mono (by decide)) rfl (pa_cons (pv 0) (pa_cons (pv 1) pa_nil))))
      (pss_cons (ps_set (i := 3) nd rfl (Or.inl rfl) (pe_callTy call_list_of rfl T.list bt_list (pa_cons (pe_ix ix_tup (pv 1) pe_int (fun _ _ => rfl)) pa_nil)))
      (pss_cons (ps_if (pt_cmpR op_eq (pe_ix ix_tup (pv 1) pe_int (fun _ _ => rfl)) pe_str (nomark _))
        (pss_one (ps_ret (pe_tup (pa_cons pe_str (pa_cons (pv 3) pa_nil)))))
        pss_nil)
      (pss_cons (ps_set (i := 4) nd rfl (Or.inl rfl) (pe_ix ix_list (pv 2) pe_int (fun _ _ => rfl)))
      (pss_cons (ps_if (pt_cmpR op_eq (pe_ix ix_tup (pv 1) pe_int (fun _ _ => rfl)) pe_str (nomark _))
        (pss_one (ps_ret (pe_tup (pa_cons pe_str (pa_cons (pv 3) (pa_cons (pe_callB call_len_seq rfl T.len bt_len (pa_cons (pe_fn F_tu (hr.mono (by decide)) rfl (pa_cons (pv 4) pa_nil)) pa_nil)) (pa_cons (pe_fn F_mark (hr.mono (by decide)) rfl (pa_cons (pv 4) pa_nil)) pa_nil)))))))
        pss_nil)
      (pss_one (ps_ret (pe_tup (pa_cons pe_str (pa_cons (pv 3) (pa_cons (pe_fn F_mark (hr.mono (by decide)) rfl (pa_cons (pv 4) pa_nil)) pa_nil))))))))))), ?_⟩
    refine fold_goal fun Zg hZg => ?_
    obtain ⟨a, sx, pa, rfl, ha, h0, h1, hp, _⟩ := ru.step
    refine hZg ?_
    clear hZg Zg
    refine ⟨_, rfl, _, rfl, G, v, _, ts, st, rfl, sm, rv, ru, hfit, by omega, fun bs hb G1 H1 r1 x1 rt => ?_, ke⟩
    refine fold_goal fun Zg hZg => ?_
    obtain ⟨hpe, hd, hi0, hn0, hle⟩ := beside_some hb
    refine hZg ?_
    clear hZg Zg
    have htl : (Stp.taken st bs).length = st.many.toNat := by unfold Stp.taken; rw [List.length_take, List.length_drop]; omega
    have ha1 := x1.gh _ _ (x1.g _ _ ha)
    refine fold_goal fun Zg hZg => ?_
    obtain ⟨ta, tvs, rfl, hta, rts⟩ := rt.row
    refine hZg ?_
    clear hZg Zg
    -- path = list(step[1])
    refine ⟨_, rfl, a, sx, _, _, rfl, rfl, SqT.of ha1, atI_nat (j := 1) h1, pa, _, rfl, .inl (SqL.of (x1.gh _ _ (x1.g _ _ hp))), fun q1 g1 => ?_⟩
    have y2 := Ext.add (o := .lst (st.path.map V.int)) x1.gh g1
    have x2 := x1.trans y2
    have ha2 := same_upd (o := .lst (st.path.map V.int)) g1 _ _ ha1
    have hta2 := x2.gh _ _ (y2.g _ _ hta)
    have rp : Rep (upd G1 q1 (.lst (st.path.map V.int))) (.ref q1) (pathD st.path) := .lst upd_same (ints_reps _)
    have one : ∀ t rest, Stp.taken st bs = t :: rest → ∃ tv, atI tvs 0 = some tv ∧ Rep (upd G1 q1 (.lst (st.path.map V.int))) tv t.d := fun t rest e => by
      rw [e] at rts
      refine fold_goal fun Zg hZg => ?_
      obtain ⟨tv, htv, rtv⟩ := rts.get (i := 0) (d := t.d) rfl
      refine hZg ?_
      clear hZg Zg
      exact ⟨tv, atI_nat (j := 0) htv, rtv.mono y2.g⟩
    have kq' := kq bs hb
    clear kq ke
    generalize Stp.taken st bs = xs at *
    refine ⟨_, rfl, a, sx, _, _, rfl, rfl, SqT.of ha2, atI_nat (j := 0) h0, rfl, _, rfl, ?_⟩
    cases st with
    | put p n m =>
      refine iteT ⟨_, rfl, (by show 2 ≤ sizeLine; decide), fun q2 g2 => ?_⟩
      have y3 := Ext.add (o := .tup [V.str (Str.ofString "cut"), V.ref q1]) x2.gh g2
      refine kq' _ _ _ (x2.trans y3) ?_
      have : (Stp.put p n m).back xs = .cut p := by cases xs <;> rfl
      rw [this]
      exact .tup upd_same (.cons (.str _) (.cons (rp.mono y3.g) .nil))
    | cut p =>
      match xs, htl, one, kq' with
      | [], htl, _, _ => exact absurd (show (0 : Nat) = 1 from htl) (by decide)
      | t :: rest, _, one, kq' =>
        refine fold_goal fun Zg hZg => ?_
        obtain ⟨tv, htv, rtv⟩ := one t rest rfl
        refine hZg ?_
        clear hZg Zg
        refine iteF ⟨_, rfl, ta, tvs, _, tv, rfl, rfl, SqL.of hta2, htv, ?_⟩
        refine ⟨_, rfl, a, sx, _, _, rfl, rfl, SqT.of ha2, atI_nat (j := 0) h0, rfl, _, rfl, iteT ?_⟩
        refine ⟨_, rfl, _, rfl, _, tv, t, rfl, x2.gh, rtv, fun G3 H3 r3 x3 rr3 => ?_⟩
        refine fold_goal fun Zg hZg => ?_
        obtain ⟨ka, kvs, rfl, hka, rks⟩ := rr3.row
        refine hZg ?_
        clear hZg Zg
        have hkl := rks.length
        rw [List.length_map] at hkl
        refine ⟨ka, kvs, rfl, .inl (SqL.of (x3.gh _ _ hka)), _, rfl, G3, tv, t, rfl, x3.gh, rtv.mono x3.g, (by show 4 ≤ sizeLine; decide), fun q2 g2 => ?_⟩
        have x4 := x2.trans x3
        have y5 := Ext.add (o := .tup [V.str (Str.ofString "put"), V.ref q1, V.int (kvs.length : Int), V.str t.mark]) x4.gh g2
        refine kq' _ _ _ (x4.trans y5) ?_
        show Rep _ _ (Stp.put p (t.kids.length : Int) t.mark).d
        rw [← hkl]
        exact .tup upd_same (.cons (.str _) (.cons (rp.mono (x3.g.trans y5.g)) (.cons (.int _) (.cons (.str _) .nil))))
    | mark p m =>
      match xs, htl, one, kq' with
      | [], htl, _, _ => exact absurd (show (0 : Nat) = 1 from htl) (by decide)
      | t :: rest, _, one, kq' =>
        refine fold_goal fun Zg hZg => ?_
        obtain ⟨tv, htv, rtv⟩ := one t rest rfl
        refine hZg ?_
        clear hZg Zg
        refine iteF ⟨_, rfl, ta, tvs, _, tv, rfl, rfl, SqL.of hta2, htv, ?_⟩
        refine ⟨_, rfl, a, sx, _, _, rfl, rfl, SqT.of ha2, atI_nat (j := 0) h0, rfl, _, rfl, iteF ?_⟩
        refine ⟨_, rfl, _, rfl, _, tv, t, rfl, x2.gh, rtv, (by show 3 ≤ sizeLine; decide), fun q2 g2 => ?_⟩
        have y5 := Ext.add (o := .tup [V.str (Str.ofString "mark"), V.ref q1, V.str t.mark]) x2.gh g2
        refine kq' _ _ _ (x2.trans y5) ?_
        show Rep _ _ (Stp.mark p t.mark).d
        exact .tup upd_same (.cons (.str _) (.cons (rp.mono y5.g) (.cons (.str _) .nil)))
/-! ### behind -/
noncomputable def spBehind (C : Addr) : Sp := fun vs H Q E => ∃ (G : Hp) (v u : V) (ts : List Tr) (sts : List Stp), vs = [v, u] ∧ Same G H ∧ Rep G v (rowD ts) ∧ Rep G u (.lst (sts.map Stp.d)) ∧ (∀ st ∈ sts, st.Fit) ∧ knotsOf ts + sts.length ≤ 800 ∧
  (∀ cs, runS sts ts = some cs → ∀ (G' H' : Hp) (r : V), Ext G H G' H' → Rep G' r (rowD cs) → Q r H') ∧ (runS sts ts = none → ∀ H' : Hp, Same H H' → E (.ref C) none H')
theorem scBehind : FnScope ["row", "steps", "current", "step"] ["row", "steps"] (defScope sBehind) := ⟨rfl, rfl, rfl, by decide +kernel, rfl, by decide +kernel, by decide +kernel⟩
theorem ok_behind {C : Addr} {f : Addr} {fd : FuncData} (F : Fun K "behind" "behind" sBehind f fd) (T : Txt mg) (F_done : OkR P w K mg base 11 "done" ["row", "step"] (spDone C)) : FnOk P w K mg base (CXr P w) 13 f fd ["row", "steps"] (spBehind C) := by
  refine fun_okR F scBehind (fun vs H Q E h => ?_) (fun cdv A outer s H vs Q E hr h => ?_)
  · refine fold_goal fun Zg hZg => ?_
    obtain ⟨G, v, u, ts, sts, rfl, _⟩ := h
    refine hZg ?_
    clear hZg Zg
    rfl
  · refine fold_goal fun Zg hZg => ?_
    obtain ⟨G, v, u, ts, sts, rfl, sm, rv, ru, hfit, hkt, kq, ke⟩ := h
    refine hZg ?_
    clear hZg Zg
    have nd := scBehind.nd
    refine ⟨_, (pss_cons (ps_set (i := 2) nd rfl (Or.inl rfl) (pe_callTy call_list_of rfl T.list bt_list (pa_cons (pv 0) pa_nil)))
      (pss_cons (ps_for turns_cx rfl (pi_list (pv 1)) (pg_name (i := 3) nd rfl (Or.inl rfl))
        (pss_one (ps_set (i := 2) nd rfl (Or.inl rfl) (pe_fnR F_done passes_cx (hr.mono (by decide)) rfl (pa_cons (pv 2) (pa_cons (pv 3) pa_nil))))))
      (pss_one (ps_ret (pv 2))))), ?_⟩
    refine fold_goal fun Zg hZg => ?_
    obtain ⟨ra, rvs, rfl, hra, rts⟩ := rv.row
    refine hZg ?_
    clear hZg Zg
    cases ru with
    | @lst ua us _ hua rus =>
    have hul := rus.length
    rw [List.length_map] at hul
    refine ⟨_, rfl, ra, rvs, rfl, .inl (SqL.of (sm _ _ hra)), fun q1 g1 => ?_⟩
    have x1 := Ext.add (o := .lst rvs) sm g1
    refine ⟨_, rfl, ua, rfl, ⟨_, SqL.of (x1.h _ _ (sm _ _ hua))⟩, for_list (K := K) (a := ua) (xs := us)
      (fun i σ H2 => ∃ (G2 : Hp) (cv : V) (cs : List Tr) (z : Option V), σ = [some (.ref ra), some (.ref ua), some cv, z] ∧ Ext G H G2 H2 ∧ Rep G2 cv (rowD cs) ∧ runS (sts.take i) ts = some cs ∧ knotsOf cs ≤ knotsOf ts + i)
      ⟨_, .ref q1, ts, none, rfl, x1, .lst upd_same (rts.mono x1.g), rfl, Nat.le_refl _⟩ (fun i σ H2 _ hZq => by obtain ⟨G2, _, _, _, _, x, _⟩ := hZq; exact SqL.of (x.h _ _ (sm _ _ hua))) ?_ ?_⟩
    · intro i y σ H2 hi hZp
      refine fold_goal fun Zg hZg => ?_
      obtain ⟨G2, cv, cs, z, rfl, x, rc, hrun, hkc⟩ := hZp
      refine hZg ?_
      clear hZg Zg
      have hil : i < us.length := (List.getElem?_eq_some_iff.mp hi).1
      have his : i < sts.length := by omega
      refine fold_goal fun Zg hZg => ?_
      obtain ⟨d, hd, rd⟩ := rus.at hi
      refine hZg ?_
      clear hZg Zg
      rw [List.getElem?_map, List.getElem?_eq_getElem his] at hd
      cases hd
      have hst : sts[i] ∈ sts := List.getElem_mem his
      have htk : sts.take (i + 1) = sts.take i ++ [sts[i]] := List.take_succ_eq_append_getElem his
      refine ⟨_, rfl, _, rfl, G2, cv, y, cs, sts[i], rfl, x.gh, rc, rd.mono x.g, hfit _ hst, by omega, fun bs hb G3 H3 r3 x3 rr3 => ?_, fun hb H' s' => ke ?_ _ (x.h.trans s')⟩
      · refine ⟨G3, r3, _, _, rfl, x.trans x3, rr3, ?_, ?_⟩
        · rw [htk, runS_app, hrun, Option.bind_some, runS, hb]
          rfl
        · have := row_knots hb
          omega
      · have e := runS_app (sts.take i) (sts.drop i) ts
        rw [List.take_append_drop, hrun, Option.bind_some, List.drop_eq_getElem_cons his, runS, hb] at e
        exact e
    · intro σ H2 hZp
      refine fold_goal fun Zg hZg => ?_
      obtain ⟨G2, cv, cs, z, rfl, x, rc, hrun, hkc⟩ := hZp
      refine hZg ?_
      clear hZg Zg
      rw [hul, List.take_length] at hrun
      exact ⟨_, rfl, kq cs hrun _ _ _ x rc⟩
end
end K3
namespace TT
open PySem L2
theorem Reps.rev {G : Hp} : ∀ {vs : List V} {ds : List D}, Reps G vs ds → Reps G vs.reverse ds.reverse
  | _, _, .nil => .nil
  | _, _, .cons r t => by
    rw [List.reverse_cons, List.reverse_cons]
    exact (Reps.rev t).append (.cons r .nil)
end TT
namespace K3
open PySem L2 TT
section
variable {P : Program} {w : World} {K : PySem.W.Frag} {mg : Str → Option Value} {base : Heap}
/-! ### turned -/
noncomputable def spTurned (C : Addr) : Sp := fun vs H Q E => ∃ (G : Hp) (v u : V) (ts : List Tr) (sts : List Stp), vs = [v, u] ∧ Same G H ∧ Rep G v (rowD ts) ∧ Rep G u (.lst (sts.map Stp.d)) ∧ (∀ st ∈ sts, st.Fit) ∧ knotsOf ts + sts.length ≤ 800 ∧
  (∀ cs, runS sts ts = some cs → ∀ (G' H' : Hp) (r : V), Ext G H G' H' → Rep G' r (.lst ((backsS sts ts).reverse.map Stp.d)) → Q r H') ∧ (runS sts ts = none → ∀ H' : Hp, Same H H' → E (.ref C) none H')
theorem scTurned : FnScope ["row", "steps", "current", "back", "step"] ["row", "steps"] (defScope sTurned) := ⟨rfl, rfl, rfl, by decide +kernel, rfl, by decide +kernel, by decide +kernel⟩
theorem ok_turned {C : Addr} {f : Addr} {fd : FuncData} (F : Fun K "turned" "turned" sTurned f fd) (F_done : OkR P w K mg base 11 "done" ["row", "step"] (spDone C)) (F_led : OkR P w K mg base 11 "led_back" ["row", "step"] (spLed C)) :
    FnOk P w K mg base (CXr P w) 13 f fd ["row", "steps"] (spTurned C) := by
  refine fun_okR F scTurned (fun vs H Q E h => ?_) (fun cdv A outer s H vs Q E hr h => ?_)
  · refine fold_goal fun Zg hZg => ?_
    obtain ⟨G, v, u, ts, sts, rfl, _⟩ := h
    refine hZg ?_
    clear hZg Zg
    rfl
  · refine fold_goal fun Zg hZg => ?_
    obtain ⟨G, v, u, ts, sts, rfl, sm, rv, ru, hfit, hkt, kq, ke⟩ := h
    refine hZg ?_
    clear hZg Zg
    have nd := scTurned.nd
    have big := line_big
    refine ⟨_, (pss_cons (ps_set (i := 2) nd rfl (Or.inl rfl) (pv 0))
      (pss_cons (ps_set (i := 3) nd rfl (Or.inl rfl) (pe_lst pa_nil))
      (pss_cons (ps_for turns_cx rfl (pi_list (pv 1)) (pg_name (i := 4) nd rfl (Or.inl rfl))
        (pss_cons (ps_expr (pe_bm PySem.F.plainAttrs_list PySem.F.slot_list_append PySem.F.type_list_append mt_append (pv 3) (pa_cons (pe_fnR F_led passes_cx (hr.mono (by decide)) rfl (pa_cons (pv 2) (pa_cons (pv 4) pa_nil))) pa_nil)))
        (pss_one (ps_set (i := 2) nd rfl (Or.inl rfl) (pe_fnR F_done passes_cx (hr.mono (by decide)) rfl (pa_cons (pv 2) (pa_cons (pv 4) pa_nil)))))))
      (pss_cons (ps_expr (pe_bm0 PySem.F.plainAttrs_list PySem.F.slot_list_reverse PySem.F.type_list_reverse mt_reverse (pv 3)))
      (pss_one (ps_ret (pv 3))))))), ?_⟩
    cases ru with
    | @lst ua us _ hua rus =>
    have hul := rus.length
    rw [List.length_map] at hul
    refine ⟨_, rfl, Nat.zero_le _, fun pb hpb => ?_⟩
    have x1 : Ext G H G (upd H pb (.lst [])) := Ext.tmp sm hpb
    refine ⟨_, rfl, ua, rfl, ⟨_, SqL.of (x1.h _ _ (sm _ _ hua))⟩, for_list (K := K) (a := ua) (xs := us)
      (fun i σ H2 => ∃ (G2 : Hp) (cv : V) (cs : List Tr) (bv : List V) (z : Option V), σ = [some v, some (.ref ua), some cv, some (.ref pb), z] ∧ Ext G H G2 H2 ∧ Rep G2 cv (rowD cs) ∧ runS (sts.take i) ts = some cs ∧ knotsOf cs ≤ knotsOf ts + i ∧
        G2 pb = none ∧ H2 pb = some (.lst bv) ∧ Reps G2 bv ((backsS (sts.take i) ts).map Stp.d) ∧ bv.length = i)
      ⟨_, v, ts, [], none, rfl, x1, rv, rfl, Nat.le_refl _, sm.none hpb, upd_same, .nil, rfl⟩ (fun i σ H2 _ hZq => by obtain ⟨G2, _, _, _, _, _, x, _⟩ := hZq; exact SqL.of (x.h _ _ (sm _ _ hua))) ?_ ?_⟩
    · intro i y σ H2 hi hZp
      refine fold_goal fun Zg hZg => ?_
      obtain ⟨G2, cv, cs, bv, z, rfl, x, rc, hrun, hkc, nb, hb2, rb, hbl⟩ := hZp
      refine hZg ?_
      clear hZg Zg
      have hil : i < us.length := (List.getElem?_eq_some_iff.mp hi).1
      have his : i < sts.length := by omega
      refine fold_goal fun Zg hZg => ?_
      obtain ⟨d, hd, rd⟩ := rus.at hi
      refine hZg ?_
      clear hZg Zg
      rw [List.getElem?_map, List.getElem?_eq_getElem his] at hd
      cases hd
      have hst : sts[i] ∈ sts := List.getElem_mem his
      have htk : sts.take (i + 1) = sts.take i ++ [sts[i]] := List.take_succ_eq_append_getElem his
      refine ⟨_, rfl, .inl ⟨rfl, _, SqL.of hb2⟩, _, rfl, _, rfl, G2, cv, y, cs, sts[i], rfl, x.gh, rc, rd.mono x.g, hfit _ hst, by omega, fun bs hb G3 H3 r3 x3 rr3 => ?_, fun hb H' s' => ke ?_ _ (x.h.trans s')⟩
      · have hb3 := x3.h _ _ hb2
        have nb3 := x3.keep hb2 nb
        refine ⟨pb, bv, r3, rfl, rfl, hb3, by omega, ?_⟩
        have x4 := (x.trans x3).mut (o := .lst (bv ++ [r3])) nb3 hpb
        refine ⟨_, rfl, _, rfl, G3, cv, y, cs, sts[i], rfl, x4.gh, rc.mono x3.g, (rd.mono x.g).mono x3.g, hfit _ hst, by omega, fun bs' hb' G5 H5 r5 x5 rr5 => ?_, fun hb' H' s' => ?_⟩
        · rw [hb] at hb'
          cases hb'
          have h5 := x5.h _ _ (upd_same (H := H3) (a := pb) (o := .lst (bv ++ [r3])))
          refine ⟨G5, r5, _, _, _, rfl, x4.trans x5, rr5, ?_, ?_, x5.keep upd_same nb3, h5, ?_, ?_⟩
          · rw [htk, runS_app, hrun, Option.bind_some, runS, hb]
            rfl
          · have := row_knots hb
            omega
          · rw [htk, backsS_snoc _ _ ts cs bs hrun hb, List.map_append]
            exact ((rb.mono x3.g).mono x5.g).append (.cons (rr3.mono x5.g) .nil)
          · rw [List.length_append, List.length_singleton, hbl]
        · rw [hb] at hb'
          cases hb'
      · have e := runS_app (sts.take i) (sts.drop i) ts
        rw [List.take_append_drop, hrun, Option.bind_some, List.drop_eq_getElem_cons his, runS, hb] at e
        exact e
    · intro σ H2 hZp
      refine fold_goal fun Zg hZg => ?_
      obtain ⟨G2, cv, cs, bv, z, rfl, x, rc, hrun, hkc, nb, hb2, rb, hbl⟩ := hZp
      refine hZg ?_
      clear hZg Zg
      rw [hul, List.take_length] at hrun rb
      refine ⟨_, rfl, .inl ⟨rfl, _, SqL.of hb2⟩, pb, bv, rfl, rfl, hb2, ?_⟩
      have x3 := x.mut (o := .lst bv.reverse) nb hpb
      refine ⟨_, rfl, kq cs hrun _ _ _ (x3.freeze nb hpb upd_same) (.lst upd_same ?_)⟩
      rw [List.map_reverse]
      exact rb.rev.mono (same_upd nb)
end
end K3
namespace K3
open PySem L2 TT
section
variable {P : Program} {w : World} {K : PySem.W.Frag} {mg : Str → Option Value} {base : Heap}
/-! ### _law_any_word -/
noncomputable def spWord : Sp := fun vs H Q _ => ∃ n : Int, vs = [.int n] ∧ ∀ (H' : Hp) (x : Str), Same H H' → Word x → Q (.str x) H'
theorem scWord : FnScope ["_law_cell", "_law_left", "_law_word"] ["_law_cell"] (defScope sWord) := ⟨rfl, rfl, rfl, by decide +kernel, rfl, by decide +kernel, by decide +kernel⟩
noncomputable def leftOf : L2.St → Nat
  | [_, some (.int l), _] => (l + 1).toNat
  | _ => 0
theorem word_len {l : Int} {n : Nat} (h0 : 0 ≤ l) (h : (l + 1) * 26 ^ n ≤ 10 ^ 39) : n ≤ 27 := by
  by_cases hn : n ≤ 27
  · exact hn
  · exfalso
    obtain ⟨d, rfl⟩ : ∃ d, n = 28 + d := ⟨n - 28, by omega⟩
    have p0 : (0 : Int) < 26 ^ d := Int.pow_pos (by decide)
    have e : (26 : Int) ^ (28 + d) = 26 ^ 28 * 26 ^ d := Int.pow_add ..
    have h1 : (26 : Int) ^ 28 * 26 ^ d ≥ 26 ^ 28 * 1 := Int.mul_le_mul_of_nonneg_left (by omega) (by decide)
    have h2 : (l + 1) * (26 ^ (28 + d) : Int) ≥ 1 * (26 ^ (28 + d) : Int) := Int.mul_le_mul_of_nonneg_right (by omega) (by rw [e]; exact Int.mul_nonneg (by decide) (by omega))
    have h3 : (26 : Int) ^ 28 > 10 ^ 39 := by decide
    rw [e] at h2
    rw [e] at h
    omega
theorem ok_word {f : Addr} {fd : FuncData} (F : Fun K "_law_any_word" "_law_any_word" sWord f fd) (T : Txt mg) : FnOk P w K mg base CX0 3 f fd ["_law_cell"] spWord := by
  refine F.ok scWord (fun vs H Q E h => ?_) (fun cdv A outer s H vs Q E hr h => ?_)
  · refine fold_goal fun Zg hZg => ?_
    obtain ⟨n, rfl, _⟩ := h
    refine hZg ?_
    clear hZg Zg
    rfl
  · refine fold_goal fun Zg hZg => ?_
    obtain ⟨n, rfl, k⟩ := h
    refine hZg ?_
    clear hZg Zg
    have nd := scWord.nd
    refine ⟨_, (pss_cons (ps_set (i := 1) nd rfl (Or.inl rfl) (pe_op op_mod (pe_callB call_abs rfl T.abs bt_abs (pa_cons (pv 0) pa_nil)) (pe_op op_pow pe_int pe_int)))
      (pss_cons (ps_set (i := 2) nd rfl (Or.inl rfl) pe_str)
      (pss_cons (ps_while PassesOwn.never (pt_cmpR op_ge (pv 1) pe_int (nomark _))
        (pss_cons (ps_set (i := 2) nd rfl (Or.inl rfl) (pe_op op_add_str (pe_ix ix_str pe_str (pe_op op_mod (pv 1) pe_int) (fun _ _ => rfl)) (pv 2)))
        (pss_one (ps_set (i := 1) nd rfl (Or.inl rfl) (pe_op op_sub (pe_op op_fdiv (pv 1) pe_int) pe_int)))))
      (pss_one (ps_ret (pv 2)))))), ?_⟩
    refine ⟨_, rfl, n, rfl, _, _, rfl, rfl, ⟨by decide, by decide, by decide⟩, _, _, rfl, rfl, (by show (0 : Int) < 10 ^ (39 : Int).toNat; decide), ?_⟩
    refine while_by (fun σ H2 => ∃ (l : Int) (x : Str), σ = [some (.int n), some (.int l), some (.str x)] ∧ H2 = H ∧ -1 ≤ l ∧ (l + 1) * 26 ^ x.length ≤ 10 ^ 39 ∧ (∀ c ∈ x.cps.toList, 97 ≤ c ∧ c ≤ 122) ∧ (l = -1 → 1 ≤ x.length) ∧ x.length ≤ 28)
      (fun σ _ => leftOf σ) ?_ ?_ (fun σ H Q Q' hq ⟨v, e, i, j, e1, e2, kk, e3, h⟩ => ⟨v, e, i, j, e1, e2, kk, e3, hq _ _ h⟩)
    · refine ⟨_, _, rfl, rfl, ?_, ?_, ?_, ?_, ?_⟩
      · have := Int.emod_nonneg (if n < 0 then -n else n) (b := 10 ^ (39 : Int).toNat) (by decide)
        omega
      · have := Int.emod_lt_of_pos (if n < 0 then -n else n) (b := 10 ^ (39 : Int).toNat) (by decide)
        show (_ + 1) * 26 ^ 0 ≤ _
        have e : (10 : Int) ^ (39 : Int).toNat = 10 ^ 39 := rfl
        rw [e] at this
        omega
      · intro c hc
        have : c ∈ ([] : List Nat) := hc
        cases this
      · intro e
        have := Int.emod_nonneg (if n < 0 then -n else n) (b := 10 ^ (39 : Int).toNat) (by decide)
        omega
      · exact Nat.zero_le _
    · intro σ H2 hZp
      refine fold_goal fun Zg hZg => ?_
      obtain ⟨l, x, rfl, rfl, hl, hb, hw, h1, h28⟩ := hZp
      refine hZg ?_
      clear hZg Zg
      refine ⟨_, rfl, _, _, rfl, rfl, _, rfl, ?_⟩
      refine ite2 (fun hge => ?_) (fun hge => ?_)
      · have h0 : 0 ≤ l := of_decide_eq_true hge
        have hlen := word_len h0 hb
        refine fold_goal fun Zg hZg => ?_
        obtain ⟨c, hat, hc1, hc2⟩ := alphabet_at l
        refine hZg ?_
        clear hZg Zg
        refine ⟨_, rfl, _, _, rfl, rfl, (by show (0 : Int) < 26; decide), _, _, c, rfl, rfl, (by decide +kernel), hat, _, rfl, _, _, rfl, rfl, ?_, ?_⟩
        · show 1 + x.length ≤ sizeLine
          have := line_big
          omega
        · refine ⟨_, rfl, _, _, rfl, rfl, ⟨by decide, by decide⟩, _, _, rfl, rfl, ?_⟩
          have hx : ((⟨#[c]⟩ : Str) ++ x).length = 1 + x.length := by
            show (#[c] ++ x.cps).size = 1 + x.cps.size
            rw [Array.size_append]; rfl
          have hq : l / 26 ≤ l := by omega
          refine ⟨⟨l / 26 - 1, (⟨#[c]⟩ : Str) ++ x, rfl, rfl, by omega, ?_, ?_, ?_, ?_⟩, ?_⟩
          · rw [hx, Int.sub_add_cancel, Nat.add_comm, Int.pow_succ, ← Int.mul_assoc, Int.mul_assoc (l / 26), Int.mul_comm (26 ^ x.length) 26, ← Int.mul_assoc]
            have p0 : (0 : Int) ≤ 26 ^ x.length := Int.le_of_lt (Int.pow_pos (by decide))
            exact Int.le_trans (Int.mul_le_mul_of_nonneg_right (by omega) p0) hb
          · intro d hd
            have hd' : d ∈ ((#[c] ++ x.cps) : Array Nat).toList := hd
            rw [Array.toList_append] at hd'
            rcases List.mem_append.mp hd' with h | h
            · have : d = c := by simpa using h
              omega
            · exact hw d h
          · intro _; rw [hx]; omega
          · rw [hx]; omega
          · show (l / 26 - 1 + 1).toNat < (l + 1).toNat
            omega
      · have : l = -1 := by
          have : ¬ 0 ≤ l := fun z => hge (decide_eq_true z)
          omega
        refine ⟨_, rfl, ?_⟩
        exact k _ x (Same.refl _) ⟨h1 this, h28, hw⟩

/-! ### _law_any -/
noncomputable def spAny : Sp := fun vs H Q _ => ∃ n : Int, vs = [.int n] ∧ ∀ (H' : Hp) (m : Int), Same H H' → m.natAbs < 10 ^ 59 → Q (.int m) H'
theorem scAny : FnScope ["_law_cell", "_law_wide"] ["_law_cell"] (defScope sAny) := ⟨rfl, rfl, rfl, by decide +kernel, rfl, by decide +kernel, by decide +kernel⟩
theorem ok_any {f : Addr} {fd : FuncData} (F : Fun K "_law_any" "_law_any" sAny f fd) (T : Txt mg) : FnOk P w K mg base CX0 3 f fd ["_law_cell"] spAny := by
  refine F.ok scAny (fun vs H Q E h => ?_) (fun cdv A outer s H vs Q E hr h => ?_)
  · refine fold_goal fun Zg hZg => ?_
    obtain ⟨n, rfl, _⟩ := h
    refine hZg ?_
    clear hZg Zg
    rfl
  · refine fold_goal fun Zg hZg => ?_
    obtain ⟨n, rfl, k⟩ := h
    refine hZg ?_
    clear hZg Zg
    have nd := scAny.nd
    refine ⟨_, (pss_cons (ps_set (i := 1) nd rfl (Or.inl rfl) (pe_op op_mod (pe_op op_fdiv (pv 0) pe_int) (pe_op op_pow pe_int pe_int)))
      (pss_one (ps_ret (pe_op op_mul (pv 1) (pe_ix ix_list (pe_lst (pa_cons pe_int (pa_cons (pe_un un_neg pe_int) pa_nil))) (pe_op op_mod (pv 0) pe_int) (fun _ _ => rfl)))))), ?_⟩
    refine ⟨_, rfl, _, _, rfl, rfl, ⟨by decide, by decide⟩, _, _, rfl, rfl, ⟨by decide, by decide, by decide⟩, _, _, rfl, rfl, (by show (0 : Int) < 10 ^ (59 : Int).toNat; decide), ?_⟩
    refine fold_goal fun Zg hZg => ?_
    obtain ⟨j, hj, hs⟩ := one_sign n
    refine hZg ?_
    clear hZg Zg
    refine ⟨_, rfl, _, rfl, (by show 2 ≤ sizeLine; decide), fun p hp => ⟨_, rfl, _, _, rfl, rfl, (by show (0 : Int) < 2; decide), p, _, _, _, rfl, rfl, SqL.of upd_same, hj, _, _, rfl, rfl, .inr ?_, ?_⟩⟩
    · rcases hs with rfl | rfl <;> decide
    · refine k _ _ (same_upd hp) ?_
      have b1 : 0 ≤ n / 2 % 10 ^ (59 : Int).toNat := Int.emod_nonneg _ (by decide)
      have b2 : n / 2 % 10 ^ (59 : Int).toNat < 10 ^ (59 : Int).toNat := Int.emod_lt_of_pos _ (by decide)
      have e59 : (10 : Int) ^ (59 : Int).toNat = ((10 ^ 59 : Nat) : Int) := by decide
      rw [e59] at b1 b2 ⊢
      generalize n / 2 % ((10 ^ 59 : Nat) : Int) = r at b1 b2 ⊢
      generalize (10 ^ 59 : Nat) = B at b1 b2 ⊢
      rcases hs with rfl | rfl <;> omega
end
end K3
namespace K3
open PySem L2 TT
theorem knots_grow (m : Str) (ts : List Tr) (n : Nat) : knotsOf (ts.take n ++ [Tr.node m (ts.drop n)]) = knotsOf ts + 1 := by
  have e := knotsOf_append (ts.take n) (ts.drop n)
  rw [List.take_append_drop] at e
  rw [knotsOf_append, knotsOf, Tr.knots, knotsOf, e]
  omega
theorem words_grow {m : Str} {ts : List Tr} (n : Nat) (hm : Word m) (h : wordsOf ts) : wordsOf (ts.take n ++ [Tr.node m (ts.drop n)]) := by
  rw [wordsOf_iff] at h ⊢
  intro t ht
  rcases List.mem_append.mp ht with q | q
  · exact h t (List.mem_of_mem_take q)
  · have e : t = Tr.node m (ts.drop n) := by simpa using q
    subst e
    exact ⟨hm, wordsOf_iff.mpr fun u hu => h u (List.mem_of_mem_drop hu)⟩
theorem words_perm {a b : List Tr} (h : a.Perm b) (w : wordsOf a) : wordsOf b := wordsOf_iff.mpr fun t ht => wordsOf_iff.mp w t (h.mem_iff.mpr ht)
section
variable {P : Program} {w : World} {K : PySem.W.Frag} {mg : Str → Option Value} {base : Heap}
/-! ### _law_drawn_row -/
noncomputable def spDrawn : Sp := fun vs H Q _ => ∃ (G : Hp) (c : Addr) (ns : List Int), vs = [.ref c] ∧ Same G H ∧ G c = some (.lst (ns.map V.int)) ∧ ns.length ≤ 1000 ∧
  ∀ (G' H' : Hp) (r : V) (ts : List Tr), Ext G H G' H' → Rep G' r (rowD ts) → knotsOf ts ≤ ns.length → wordsOf ts → Q r H'
theorem scDrawn : FnScope ["_law_cells", "_law_row", "_law_j", "_law_cell", "_law_mark", "_law_many"] ["_law_cells"] (defScope sDrawn) := ⟨rfl, rfl, rfl, by decide +kernel, rfl, by decide +kernel, by decide +kernel⟩
theorem ok_drawn {f : Addr} {fd : FuncData} (F : Fun K "_law_drawn_row" "_law_drawn_row" sDrawn f fd) (T : Txt mg) (F_word : Ok1 P w K mg base 3 "_law_any_word" ["_law_cell"] spWord) : FnOk P w K mg base CX0 5 f fd ["_law_cells"] spDrawn := by
  refine F.ok scDrawn (fun vs H Q E h => ?_) (fun cdv A outer s H vs Q E hr h => ?_)
  · refine fold_goal fun Zg hZg => ?_
    obtain ⟨G, c, ns, rfl, _⟩ := h
    refine hZg ?_
    clear hZg Zg
    rfl
  · refine fold_goal fun Zg hZg => ?_
    obtain ⟨G, c, ns, rfl, sm, hc, hns, k⟩ := h
    refine hZg ?_
    clear hZg Zg
    have nd := scDrawn.nd
    refine ⟨_, (pss_cons (ps_set (i := 1) nd rfl (Or.inl rfl) (pe_lst pa_nil))
      (pss_cons (ps_for PassesOwn.never rfl (pi_range1 rfl T.range (pa_cons (pe_callB call_len_seq rfl T.len bt_len (pa_cons (pv 0) pa_nil)) pa_nil)) (pg_name (i := 2) nd rfl (Or.inl rfl))
        (pss_cons (ps_set (i := 3) nd rfl (Or.inl rfl) (pe_ix ix_list (pv 0) (pv 2) (fun _ _ => rfl)))
        (pss_cons (ps_set (i := 4) nd rfl (Or.inl rfl) (pe_ix ix_list (pe_lst (pa_cons pe_str (pa_cons pe_str (pa_cons pe_str (pa_cons pe_str pa_nil))))) (pe_op op_mod (pe_op op_fdiv (pv 3) pe_int) pe_int) (fun _ _ => rfl)))
        (pss_cons (ps_ifM (pt_cmpR op_eq (pe_op op_mod (pv 3) pe_int) pe_int (nomark _))
          (pss_one (ps_set (i := 4) nd rfl (Or.inl rfl) (pe_fn F_word (hr.mono (by decide)) rfl (pa_cons (pe_op op_fdiv (pv 3) pe_int) pa_nil))))
          pss_nil)
        (pss_cons (ps_set (i := 5) nd rfl (Or.inl rfl) (pe_callB (call_min2 rfl) rfl T.min bt_min (pa_cons (pe_ix ix_list (pe_lst (pa_cons pe_int (pa_cons pe_int (pa_cons pe_int (pa_cons pe_int (pa_cons pe_int (pa_cons pe_int (pa_cons pe_int pa_nil)))))))) (pe_op op_mod (pv 3) pe_int) (fun _ _ => rfl)) (pa_cons (pe_callB call_len_seq rfl T.len bt_len (pa_cons (pv 1) pa_nil)) pa_nil))))
        (pss_cons (ps_set (i := 1) nd rfl (Or.inl rfl) (pe_op op_cat (pe_slice sl_list (pv 1) po_none (po_some (pe_op op_sub (pe_callB call_len_seq rfl T.len bt_len (pa_cons (pv 1) pa_nil)) (pv 5)))) (pe_lst (pa_cons (pe_callTy call_tuple_of rfl T.tuple bt_tuple (pa_cons (pe_op op_cat (pe_lst (pa_cons (pv 4) pa_nil)) (pe_slice sl_list (pv 1) (po_some (pe_op op_sub (pe_callB call_len_seq rfl T.len bt_len (pa_cons (pv 1) pa_nil)) (pv 5))) po_none)) pa_nil)) pa_nil))))
        (pss_one (ps_if (pt_cmpR op_eq (pe_op op_mod (pe_op op_fdiv (pe_ix ix_list (pv 0) (pe_op op_mod (pe_op op_add (pv 2) pe_int) (pe_callB call_len_seq rfl T.len bt_len (pa_cons (pv 0) pa_nil))) (fun _ _ => rfl)) pe_int) pe_int) pe_int (nomark _))
          (pss_one (ps_set (i := 1) nd rfl (Or.inl rfl) (pe_op op_cat (pe_slice sl_list (pv 1) (po_some (pe_un un_neg pe_int)) po_none) (pe_slice sl_list (pv 1) po_none (po_some (pe_un un_neg pe_int))))))
          pss_nil))))))))
      (pss_one (ps_ret (pv 1))))), ?_⟩
    have hcl : (ns.map V.int).length = ns.length := List.length_map ..
    have big := line_big
    -- _law_row = []
    refine ⟨Nat.zero_le _, fun p0 hp0 => ?_⟩
    have x0 : Ext G H (upd G p0 (.lst [])) (upd H p0 (.lst [])) := Ext.add sm hp0
    -- for _law_j in range(len(_law_cells))
    refine ⟨_, rfl, c, _, rfl, .inl (SqL.of (x0.h _ _ (sm _ _ hc))), _, rfl, by rw [hcl]; omega, by rw [hcl]; omega, for_rangeG
      (fun i σ H2 => ∃ (G2 : Hp) (rv : V) (ts : List Tr) (v2 v3 v4 v5 : Option V), σ = [some (.ref c), some rv, v2, v3, v4, v5] ∧ Ext G H G2 H2 ∧ Rep G2 rv (rowD ts) ∧ knotsOf ts ≤ i ∧ wordsOf ts)
      ⟨_, .ref p0, [], none, none, none, none, rfl, x0, .lst upd_same .nil, Nat.le_refl _, trivial⟩ ?_ ?_⟩
    · intro i σ H2 hi hZp R0 hnx0 hrx0
      refine fold_goal fun Zg hZg => ?_
      obtain ⟨G2, rv, ts, v2, v3, v4, v5, rfl, x, rr, hk, hw⟩ := hZp
      refine hZg ?_
      clear hZg Zg
      have hin : i < ns.length := by rw [hcl] at hi; simpa using hi
      have hc2 : H2 c = some (.lst (ns.map V.int)) := x.h _ _ (sm _ _ hc)
      have hcell : atI (ns.map V.int) (0 + (i : Int)) = some (.int ns[i]) := by rw [Int.zero_add]; exact ints_ix hin
      refine fold_goal fun Zg hZg => ?_
      obtain ⟨ra, tvs, rfl, hra, rts⟩ := rr.row
      refine hZg ?_
      clear hZg Zg
      have hlen := rts.length
      rw [List.length_map] at hlen
      have hlk := length_le_knots ts
      -- cell; mark
      refine ⟨_, rfl, _, rfl, c, _, _, _, rfl, rfl, SqL.of hc2, hcell, ?_⟩
      refine fold_goal fun Zg hZg => ?_
      obtain ⟨m0, hm0, wm0⟩ := four_words (ns[i] / 4)
      refine hZg ?_
      clear hZg Zg
      refine ⟨by show 4 ≤ sizeLine; decide, fun p1 hp1 => ⟨_, rfl, _, _, rfl, rfl, ⟨by decide, by decide⟩, _, _, rfl, rfl, (by show (0 : Int) < 4; decide), p1, _, _, _, rfl, rfl, SqL.of upd_same, hm0, ?_⟩⟩
      have x1 := x.trans (Ext.tmp (o := .lst [V.str (Str.ofString "sab"), V.str (Str.ofString "tab"), V.str (Str.ofString "sob"), V.str (Str.ofString "sat")]) x.gh hp1)
      -- if cell % 11 == 8
      try dsimp only
      refine seq_gen fun Ra hna hra => ?_
      refine ⟨fun σ' H' => ∃ m : Str, σ' = [some (.ref c), some (.ref ra), some (.int (0 + (i : Int))), some (.int ns[i]), some (.str m), v5] ∧ Word m ∧ Ext G H G2 H', ?_, ?_⟩
      · refine ⟨_, rfl, _, _, rfl, rfl, (by show (0 : Int) < 11; decide), rfl, _, rfl, ?_⟩
        refine ite2 (fun _ => ?_) (fun _ => ?_)
        · refine ⟨_, rfl, _, _, rfl, rfl, ⟨by decide, by decide⟩, _, rfl, fun H4 y sm4 wy => ?_⟩
          exact ⟨y, rfl, wy, ⟨x1.g, x1.gh.trans sm4, x1.h.trans sm4, x1.new⟩⟩
        · exact ⟨m0, rfl, wm0, x1⟩
      · intro σ' H3 hZp
        refine fold_goal fun Zg hZg => ?_
        obtain ⟨m, rfl, wm, x3⟩ := hZp
        refine hZg ?_
        clear hZg Zg
        refine hna _ _ ?_
        clear hna hra Ra
        have hra3 : H3 ra = some (.lst tvs) := x3.gh _ _ hra
        -- many
        try dsimp only
        refine seq_gen fun Rb hnb hrb => ?_
        obtain ⟨k7, hk7⟩ := seven_ints ns[i]
        refine ⟨by show 7 ≤ sizeLine; decide, fun p2 hp2 => ⟨_, rfl, _, _, rfl, rfl, (by show (0 : Int) < 7; decide), p2, _, _, _, rfl, rfl, SqL.of upd_same, hk7, _, rfl, ra, tvs, rfl, .inl (SqL.of (same_upd hp2 _ _ hra3)), _, _, rfl, ?_⟩⟩
        have x4 := x3.trans (Ext.tmp (o := .lst [V.int 0, V.int 0, V.int 1, V.int 1, V.int 2, V.int 3, V.int 4]) x3.gh hp2)
        obtain ⟨mn, hmn, hml⟩ : ∃ mn : Nat, (if (tvs.length : Int) < (k7 : Int) then (tvs.length : Int) else (k7 : Int)) = (mn : Int) ∧ mn ≤ tvs.length := by
          by_cases h : (tvs.length : Int) < (k7 : Int)
          · exact ⟨tvs.length, by rw [if_pos h], Nat.le_refl _⟩
          · exact ⟨k7, by rw [if_neg h], by omega⟩
        rw [hmn]
        have hsub : (tvs.length : Int) - (mn : Int) = ((tvs.length - mn : Nat) : Int) := by omega
        have hra4 := x4.gh _ _ hra
        -- row[:len(row) - many]
        refine hnb _ _ ?_
        clear hnb hrb Rb
        try dsimp only
        refine seq_gen fun Rc hnc hrc => ?_
        refine ⟨_, rfl, _, rfl, ra, tvs, rfl, .inl (SqL.of hra4), _, rfl, _, _, rfl, rfl, _, rfl, ra, tvs, rfl, SqL.of hra4, fun p3 hp3 => ?_⟩
        rw [hsub, cut_to]
        have x5 := x4.trans (Ext.tmp (o := .lst (tvs.take (tvs.length - mn))) x4.gh hp3)
        have hra5 := x5.gh _ _ hra
        -- [mark] + row[len(row) - many:]
        refine ⟨_, rfl, (by show 1 ≤ sizeLine; decide), fun p4 hp4 => ?_⟩
        have x6 := x5.trans (Ext.tmp (o := .lst [V.str m]) x5.gh hp4)
        have hra6 := x6.gh _ _ hra
        refine ⟨_, rfl, _, rfl, ra, tvs, rfl, .inl (SqL.of hra6), _, rfl, _, _, rfl, rfl, _, rfl, ra, tvs, rfl, SqL.of hra6, fun p5 hp5 => ?_⟩
        rw [hsub, cut_from]
        have x7 := x6.trans (Ext.tmp (o := .lst (tvs.drop (tvs.length - mn))) x6.gh hp5)
        refine ⟨p4, p5, _, _, rfl, rfl, same_upd hp5 _ _ upd_same, upd_same, (by rw [List.length_drop]; show 1 + _ ≤ sizeLine; omega), fun p6 hp6 => ?_⟩
        have x8 := x7.trans (Ext.tmp (o := .lst ([V.str m] ++ tvs.drop (tvs.length - mn))) x7.gh hp6)
        refine ⟨p6, _, rfl, .inl ⟨SqL.of upd_same, fun p7 hp7 => ?_⟩⟩
        have x9 := x8.trans (Ext.add (o := .tup ([V.str m] ++ tvs.drop (tvs.length - mn))) x8.gh hp7)
        refine ⟨by show 1 ≤ sizeLine; decide, fun p8 hp8 => ?_⟩
        have x10 := x9.trans (Ext.tmp (o := .lst [V.ref p7]) x9.gh hp8)
        have h38 : upd (upd (upd (upd (upd (upd (upd H3 p2 (.lst [V.int 0, V.int 0, V.int 1, V.int 1, V.int 2, V.int 3, V.int 4])) p3 (.lst (tvs.take (tvs.length - mn)))) p4 (.lst [V.str m])) p5 (.lst (tvs.drop (tvs.length - mn)))) p6 (.lst ([V.str m] ++ tvs.drop (tvs.length - mn)))) p7 (.tup ([V.str m] ++ tvs.drop (tvs.length - mn)))) p8 (.lst [V.ref p7]) p3 = some (.lst (tvs.take (tvs.length - mn))) :=
          same_upd hp8 _ _ (same_upd hp7 _ _ (same_upd hp6 _ _ (same_upd hp5 _ _ (same_upd hp4 _ _ upd_same))))
        refine ⟨p3, p8, _, _, rfl, rfl, h38, upd_same, (by rw [List.length_take]; show _ + 1 ≤ sizeLine; omega), fun p9 hp9 => ?_⟩
        have x11 := x10.trans (Ext.add (o := .lst (tvs.take (tvs.length - mn) ++ [V.ref p7])) x10.gh hp9)
        -- the row that stands now
        have s7 : Same G2 (upd G2 p7 (.tup ([V.str m] ++ tvs.drop (tvs.length - mn)))) := same_upd (x8.gh.none hp7)
        have s9 : Same (upd G2 p7 (.tup ([V.str m] ++ tvs.drop (tvs.length - mn)))) (upd (upd G2 p7 (.tup ([V.str m] ++ tvs.drop (tvs.length - mn)))) p9 (.lst (tvs.take (tvs.length - mn) ++ [V.ref p7]))) := same_upd (x10.gh.none hp9)
        have R : Rep (upd (upd G2 p7 (.tup ([V.str m] ++ tvs.drop (tvs.length - mn)))) p9 (.lst (tvs.take (tvs.length - mn) ++ [V.ref p7]))) (.ref p9) (rowD (ts.take (tvs.length - mn) ++ [Tr.node m (ts.drop (tvs.length - mn))])) := by
          refine .lst upd_same ?_
          rw [List.map_append, List.map_take]
          refine ((rts.take _).mono (s7.trans s9)).append (.cons ?_ .nil)
          rw [tree_d]
          refine .tup (s9 _ _ upd_same) (.cons (.str m) ?_)
          show Reps _ _ ((ts.drop (tvs.length - mn)).map Tr.d)
          rw [List.map_drop]
          exact (rts.drop _).mono (s7.trans s9)
        have hkn := knots_grow m ts (tvs.length - mn)
        have hwn := words_grow (tvs.length - mn) wm hw
        have hc11 := x11.h _ _ (sm _ _ hc)
        have h9 := x11.gh _ _ (upd_same (H := upd G2 p7 (.tup ([V.str m] ++ tvs.drop (tvs.length - mn)))) (a := p9) (o := .lst (tvs.take (tvs.length - mn) ++ [V.ref p7])))
        generalize tvs.take (tvs.length - mn) ++ [V.ref p7] = rvs at *
        generalize ts.take (tvs.length - mn) ++ [Tr.node m (ts.drop (tvs.length - mn))] = rs at *
        have hpos : (0 : Int) < ((ns.map V.int).length : Int) := by rw [hcl]; omega
        have hm1 : 0 ≤ (0 + (i : Int) + 1) % ((ns.map V.int).length : Int) := Int.emod_nonneg _ (by omega)
        have hm2 : (0 + (i : Int) + 1) % ((ns.map V.int).length : Int) < ((ns.map V.int).length : Int) := Int.emod_lt_of_pos _ hpos
        obtain ⟨nx, hnx⟩ := ints_ixI (ns := ns) hm1 (by rw [hcl] at hm2 ⊢; exact hm2)
        -- if cells[(j + 1) % len(cells)] // 3 % 4 == 1
        refine hnc _ _ ?_
        clear hnc hrc Rc
        refine ⟨_, rfl, _, rfl, _, _, rfl, rfl, _, rfl, c, _, rfl, .inl (SqL.of hc11), _, _, rfl, rfl, hpos, c, _, _, _, rfl, rfl, SqL.of hc11, hnx, _, _, rfl, rfl, ⟨by decide, by decide⟩, _, _, rfl, rfl, (by show (0 : Int) < 4; decide), rfl, _, rfl, ?_⟩
        refine ite2 (fun _ => ?_) (fun _ => ?_)
        · refine fold_goal fun Zg hZg => ?_
          obtain ⟨_, rvs', e9, hg9, rrs⟩ := R.row
          refine hZg ?_
          clear hZg Zg
          cases e9
          rw [upd_same] at hg9
          cases hg9
          have hrl := rrs.length
          rw [List.length_map] at hrl
          have hrk := length_le_knots rs
          refine ⟨_, rfl, _, rfl, _, rfl, p9, rvs, rfl, SqL.of h9, fun q1 h1 => ?_⟩
          rw [cut_last]
          have x12 := x11.trans (Ext.tmp (o := .lst (rvs.drop (rvs.length - 1))) x11.gh h1)
          refine ⟨_, rfl, _, rfl, _, rfl, p9, rvs, rfl, SqL.of (same_upd h1 _ _ h9), fun q2 h2 => ?_⟩
          rw [cut_front]
          have x13 := x12.trans (Ext.tmp (o := .lst (rvs.take (rvs.length - 1))) x12.gh h2)
          refine ⟨q1, q2, _, _, rfl, rfl, same_upd h2 _ _ upd_same, upd_same, (by rw [List.length_drop, List.length_take]; omega), fun q3 h3 => ?_⟩
          have x14 := x13.trans (Ext.add (o := .lst (rvs.drop (rvs.length - 1) ++ rvs.take (rvs.length - 1))) x13.gh h3)
          have hpm : (rs.drop (rvs.length - 1) ++ rs.take (rvs.length - 1)).Perm rs := by
            have := List.perm_append_comm (l₁ := rs.drop (rvs.length - 1)) (l₂ := rs.take (rvs.length - 1))
            rwa [List.take_append_drop] at this
          refine hnx0 _ _ ⟨_, .ref q3, rs.drop (rvs.length - 1) ++ rs.take (rvs.length - 1), _, _, _, _, rfl, x14, .lst upd_same ?_, ?_, words_perm hpm.symm hwn⟩
          · rw [List.map_append, List.map_drop, List.map_take]
            exact ((rrs.drop _).append (rrs.take _)).mono (same_upd (x13.gh.none h3))
          · rw [knotsOf_perm hpm]; omega
        · exact hnx0 _ _ ⟨_, .ref p9, rs, _, _, _, _, rfl, x11, R, by omega, hwn⟩
    · intro σ H2 hZp
      refine fold_goal fun Zg hZg => ?_
      obtain ⟨G2, rv, ts, v2, v3, v4, v5, rfl, x, rr, hk, hw⟩ := hZp
      refine hZg ?_
      clear hZg Zg
      rw [hcl, Int.toNat_natCast] at hk
      exact ⟨_, rfl, k G2 H2 rv ts x rr hk hw⟩
end
end K3
namespace K3
open PySem L2 TT
/-- between two turns of _law_so -/
noncomputable def SoInv (H : Hp) (v u : V) (pt : Addr) (n m : Nat) (σ : L2.St) (H2 : Hp) : Prop := ∃ (G2 : Hp) (tv : List V) (ds : List D) (a b c : Option V), σ = [some v, some u, some (.ref pt), a, b, c] ∧ Same G2 H2 ∧ Same H H2 ∧ G2 pt = none ∧ H2 pt = some (.lst tv) ∧
  Paired (PairRel G2) tv ds ∧ sizes ds = m ∧ m ≤ n
section
variable {P : Program} {w : World} {K : PySem.W.Frag} {mg : Str → Option Value} {base : Heap}
/-! ### _law_so -/
noncomputable def spSo : Sp := fun vs H Q _ => ∃ (G : Hp) (v u : V) (d : D), vs = [v, u] ∧ Same G H ∧ Rep G v d ∧ Rep G u d ∧ d.size ≤ 100000 ∧ ∀ H' : Hp, Same H H' → Q (.bl true) H'
theorem scSo : FnScope ["_law_found", "_law_due", "_law_todo", "_law_one", "_law_other", "_law_k"] ["_law_found", "_law_due"] (defScope sSo) := ⟨rfl, rfl, rfl, by decide +kernel, rfl, by decide +kernel, by decide +kernel⟩
theorem ok_so {f : Addr} {fd : FuncData} (F : Fun K "_law_so" "_law_so" sSo f fd) (T : Txt mg) : FnOk P w K mg base CX0 5 f fd ["_law_found", "_law_due"] spSo := by
  refine F.ok scSo (fun vs H Q E h => ?_) (fun cdv A outer s H vs Q E hr h => ?_)
  · refine fold_goal fun Zg hZg => ?_
    obtain ⟨G, v, u, d, rfl, _⟩ := h
    refine hZg ?_
    clear hZg Zg
    rfl
  · refine fold_goal fun Zg hZg => ?_
    obtain ⟨G, v, u, d, rfl, sm, rv, ru, hsz, k⟩ := h
    refine hZg ?_
    clear hZg Zg
    have nd := scSo.nd
    have hu := hr.units0
    have big := line_big
    refine ⟨_, (pss_cons (ps_set (i := 2) nd rfl (Or.inl rfl) (pe_lst (pa_cons (pe_tup (pa_cons (pv 0) (pa_cons (pv 1) pa_nil))) pa_nil)))
      (pss_cons (ps_while PassesOwn.never (pt_cmpR (op_neE hu) (pv 2) (pe_lst pa_nil) (nomark _))
        (pss_cons (ps_asg (pe_bm0 PySem.F.plainAttrs_list PySem.F.slot_list_pop PySem.F.type_list_pop mt_pop (pv 2)) (pg_tup rfl (pgs_cons (pg_name (i := 3) nd rfl (Or.inl rfl)) (pgs_cons (pg_name (i := 4) nd rfl (Or.inl rfl)) pgs_nil))))
        (pss_one (ps_if (pt_val (pe_callB call_isi2 rfl T.isinstance bt_isinstance (pa_cons (pv 4) (pa_cons (pe_tup (pa_cons (pe_ty rfl T.list bt_list) (pa_cons (pe_ty rfl T.tuple bt_tuple) pa_nil))) pa_nil))))
          (pss_cons (ps_if (pt_cmpR op_ne (pe_callB call_isi rfl T.isinstance bt_isinstance (pa_cons (pv 3) (pa_cons (pe_ty rfl T.list bt_list) pa_nil))) (pe_callB call_isi rfl T.isinstance bt_isinstance (pa_cons (pv 4) (pa_cons (pe_ty rfl T.list bt_list) pa_nil))) (nomark _))
            (pss_one (ps_ret pe_bl))
            pss_nil)
          (pss_cons (ps_if (pt_cmpR op_ne (pe_callB call_isi rfl T.isinstance bt_isinstance (pa_cons (pv 3) (pa_cons (pe_ty rfl T.tuple bt_tuple) pa_nil))) (pe_callB call_isi rfl T.isinstance bt_isinstance (pa_cons (pv 4) (pa_cons (pe_ty rfl T.tuple bt_tuple) pa_nil))) (nomark _))
            (pss_one (ps_ret pe_bl))
            pss_nil)
          (pss_cons (ps_if (pt_cmpR op_ne (pe_callB call_len_seq rfl T.len bt_len (pa_cons (pv 3) pa_nil)) (pe_callB call_len_seq rfl T.len bt_len (pa_cons (pv 4) pa_nil)) (nomark _))
            (pss_one (ps_ret pe_bl))
            pss_nil)
          (pss_one (ps_for PassesOwn.never rfl (pi_range1 rfl T.range (pa_cons (pe_callB call_len_seq rfl T.len bt_len (pa_cons (pv 4) pa_nil)) pa_nil)) (pg_name (i := 5) nd rfl (Or.inl rfl))
            (pss_one (ps_expr (pe_bm PySem.F.plainAttrs_list PySem.F.slot_list_append PySem.F.type_list_append mt_append (pv 2) (pa_cons (pe_tup (pa_cons (pe_ix ix_seq (pv 3) (pv 5) (fun _ _ => rfl)) (pa_cons (pe_ix ix_seq (pv 4) (pv 5) (fun _ _ => rfl)) pa_nil))) pa_nil)))))))))
          (pss_one (ps_if (pt_val (pe_callB call_isi rfl T.isinstance bt_isinstance (pa_cons (pv 4) (pa_cons (pe_ty rfl T.str bt_str) pa_nil))))
            (pss_one (ps_if (PW.pt (pw_or (pt_not (pt_val (pe_callB call_isi rfl T.isinstance bt_isinstance (pa_cons (pv 3) (pa_cons (pe_ty rfl T.str bt_str) pa_nil))))) (pw_or1 (pt_cmpR op_ne (pv 3) (pv 4) (nomark _)))))
              (pss_one (ps_ret pe_bl))
              pss_nil))
            (pss_one (ps_if (pt_val (pe_callB call_isi rfl T.isinstance bt_isinstance (pa_cons (pv 4) (pa_cons (pe_ty rfl T.bool bt_bool) pa_nil))))
              (pss_one (ps_if (PW.pt (pw_or (pt_not (pt_val (pe_callB call_isi rfl T.isinstance bt_isinstance (pa_cons (pv 3) (pa_cons (pe_ty rfl T.bool bt_bool) pa_nil))))) (pw_or1 (pt_cmpR op_ne (pv 3) (pv 4) (nomark _)))))
                (pss_one (ps_ret pe_bl))
                pss_nil))
              (pss_one (ps_if (pt_cmp (pc_isN (pv 4)))
                (pss_one (ps_if (pt_cmp (pc_notN (pv 3)))
                  (pss_one (ps_ret pe_bl))
                  pss_nil))
                (pss_one (ps_if (PW.pt (pw_or (pt_not (pt_val (pe_callB call_isi rfl T.isinstance bt_isinstance (pa_cons (pv 3) (pa_cons (pe_ty rfl T.int bt_int) pa_nil))))) (pw_or (pt_val (pe_callB call_isi rfl T.isinstance bt_isinstance (pa_cons (pv 3) (pa_cons (pe_ty rfl T.bool bt_bool) pa_nil)))) (pw_or1 (pt_cmpR op_ne (pv 3) (pv 4) (nomark _))))))
                  (pss_one (ps_ret pe_bl))
                  pss_nil))))))))))))
      (pss_one (ps_ret pe_bl)))), ?_⟩
    -- _law_todo = [(_law_found, _law_due)]
    refine ⟨_, rfl, _, rfl, (by show 2 ≤ sizeLine; decide), fun q0 hq0 => ⟨by show 1 ≤ sizeLine; decide, fun pt hpt => ?_⟩⟩
    have x0 : Ext G H (upd G q0 (.tup [v, u])) (upd H q0 (.tup [v, u])) := Ext.add sm hq0
    have hptH : H pt = none := x0.h.none hpt
    refine ⟨SoInv H v u pt d.size, ⟨d.size, _, [.ref q0], [d], none, none, none, rfl, x0.gh.trans (same_upd hpt), x0.h.trans (same_upd hpt), x0.gh.none hpt, upd_same,
      .cons ⟨q0, v, u, rfl, upd_same, rv.mono x0.g, ru.mono x0.g⟩ .nil, by simp [sizes], Nat.le_refl _⟩, ?_⟩
    intro m σ H2 hZp
    refine fold_goal fun Zg hZg => ?_
    obtain ⟨G2, tv, ds, v3, v4, v5, rfl, sg, sh, npt, hpt2, hP, hm, hmn⟩ := hZp
    refine hZg ?_
    clear hZg Zg
    -- while _law_todo != []
    refine ⟨_, rfl, Nat.zero_le _, fun pe hpe => ⟨pt, pe, tv, rfl, rfl, SqL.of (same_upd hpe _ _ hpt2), SqL.of upd_same, _, rfl, ?_⟩⟩
    have sg1 : Same G2 (upd H2 pe (.lst [])) := sg.trans (same_upd hpe)
    have sh1 : Same H (upd H2 pe (.lst [])) := sh.trans (same_upd hpe)
    cases he : tv.isEmpty with
    | true =>
      refine iteF ?_
      exact k _ sh1
    | false =>
      refine iteT ⟨fun σ' H' => ∃ m', m' < m ∧ SoInv H v u pt d.size m' σ' H', fun _ _ z => z, ?_⟩
      try dsimp only
      refine seqE fun R0 hnx0 hrx0 => ?_
      refine fold_goal fun Zg hZg => ?_
      obtain ⟨t0, y, rfl⟩ := last_of tv he
      refine hZg ?_
      clear hZg Zg
      refine fold_goal fun Zg hZg => ?_
      obtain ⟨ds0, d0, rfl, hP0, q, v1, v2, rfl, hq, r1, r2⟩ := paired_snoc hP
      refine hZg ?_
      clear hZg Zg
      have hsz0 : sizes ds0 + d0.size = m := by
        rw [← hm, sizes_append]
        simp [sizes]
      have hpos := size_pos d0
      -- pop
      refine ⟨_, rfl, .inl ⟨rfl, _, SqL.of (same_upd hpe _ _ hpt2)⟩, pt, _, _, rfl, rfl, same_upd hpe _ _ hpt2, last_at t0 _, q, [v1, v2], rfl, SqT.of ?_, rfl, _, _, rfl, _, _, rfl, rfl, ?_⟩
      · exact same_mut sg1 npt _ _ hq
      rw [List.dropLast_concat]
      have sg3 : Same G2 (upd (upd H2 pe (.lst [])) pt (.lst t0)) := same_mut sg1 npt
      have sh3 : Same H (upd (upd H2 pe (.lst [])) pt (.lst t0)) := same_mut sh1 hptH
      have hpt3 : upd (upd H2 pe (.lst [])) pt (.lst t0) pt = some (.lst t0) := upd_same
      generalize upd (upd H2 pe (.lst [])) pt (.lst t0) = H3 at sg3 sh3 hpt3 ⊢
      -- the way out of a turn that puts nothing more on the pile
      have next : ∀ H4, Same H3 H4 → R0.nx [some v, some u, some (.ref pt), some v1, some v2, v5] H4 := fun H4 s4 =>
        hnx0 _ _ ⟨sizes ds0, by omega, G2, t0, ds0, _, _, _, rfl, sg3.trans s4, sh3.trans s4, npt, s4 _ _ hpt3, hP0, rfl, by omega⟩
      -- isinstance(_law_other, (list, tuple))
      refine ⟨_, rfl, (by show 2 ≤ sizeLine; decide), fun qt hqt => ?_⟩
      have s4 : Same H3 (upd H3 qt (.tup [V.ty "list", V.ty "tuple"])) := same_upd hqt
      cases r2
      case int i =>
        cases r1
        refine ⟨_, qt, _, _, _, _, rfl, upd_same, .int i, kit2_int K, _, rfl, iteF ?_⟩
        refine ⟨_, rfl, _, _, _, _, rfl, .int i, kit_int_str K, _, rfl, iteF ?_⟩
        refine ⟨_, rfl, _, _, _, _, rfl, .int i, kit_int_bool K, _, rfl, iteF ?_⟩
        refine ⟨_, rfl, _, rfl, iteF ?_⟩
        refine ⟨_, rfl, _, _, _, _, rfl, .int i, kit_int_int K, _, rfl, iteF ⟨_, rfl, _, _, _, _, rfl, .int i, kit_int_bool K, _, rfl, iteF ⟨_, rfl, _, rfl, rfl, _, rfl, ?_⟩⟩⟩
        exact iteNS rfl (next _ s4)
      case str z =>
        cases r1
        refine ⟨_, qt, _, _, _, _, rfl, upd_same, .str z, kit2_str K, _, rfl, iteF ?_⟩
        refine ⟨_, rfl, _, _, _, _, rfl, .str z, kit_str_str K, _, rfl, iteT ?_⟩
        refine ⟨_, rfl, _, _, _, _, rfl, .str z, kit_str_str K, _, rfl, iteF ⟨_, rfl, _, rfl, rfl, _, rfl, ?_⟩⟩
        exact iteNS rfl (next _ s4)
      case bl z =>
        cases r1
        refine ⟨_, qt, _, _, _, _, rfl, upd_same, .bl z, kit2_bool K, _, rfl, iteF ?_⟩
        refine ⟨_, rfl, _, _, _, _, rfl, .bl z, kit_bool_str K, _, rfl, iteF ?_⟩
        refine ⟨_, rfl, _, _, _, _, rfl, .bl z, kit_bool_bool K, _, rfl, iteT ?_⟩
        refine ⟨_, rfl, _, _, _, _, rfl, .bl z, kit_bool_bool K, _, rfl, iteF ⟨_, rfl, _, rfl, rfl, _, rfl, ?_⟩⟩
        exact iteNS rfl (next _ s4)
      case non =>
        cases r1
        refine ⟨_, qt, _, _, _, _, rfl, upd_same, .non, kit2_none K, _, rfl, iteF ?_⟩
        refine ⟨_, rfl, _, _, _, _, rfl, .non, kit_none_str K, _, rfl, iteF ?_⟩
        refine ⟨_, rfl, _, _, _, _, rfl, .non, kit_none_bool K, _, rfl, iteF ?_⟩
        refine ⟨_, rfl, _, rfl, iteT ?_⟩
        refine ⟨_, rfl, _, rfl, iteF ?_⟩
        exact next _ s4
      case' lst a2 w2 es h2 t2 =>
        obtain ⟨a1, w1, rfl, h1, t1⟩ : ∃ a1 w1, v1 = .ref a1 ∧ G2 a1 = some (.lst w1) ∧ Reps G2 w1 es := by
          cases r1 with
          | lst h t => exact ⟨_, _, rfl, h, t⟩
        have g1 := s4 _ _ (sg3 _ _ h1)
        have g2 := s4 _ _ (sg3 _ _ h2)
        have gf1 : ∀ H', Same G2 H' → SqL K H' a1 w1 ∨ SqT K H' a1 w1 := fun H' e => .inl (SqL.of (e _ _ h1))
        have gf2 : ∀ H', Same G2 H' → SqL K H' a2 w2 ∨ SqT K H' a2 w2 := fun H' e => .inl (SqL.of (e _ _ h2))
        have hds : sizes ds0 + (1 + sizes es) = m := by rw [D.size] at hsz0; exact hsz0
        refine ⟨_, qt, _, _, _, _, rfl, upd_same, .lst g2, kit2_list K, _, rfl, iteT ?_⟩
        refine ⟨_, rfl, _, _, _, _, rfl, .lst g1, kit_list_list K, _, rfl, _, _, _, _, rfl, .lst g2, kit_list_list K, rfl, _, rfl, iteNS rfl ?_⟩
        refine ⟨_, rfl, _, _, _, _, rfl, .lst g1, kit_list_tuple K, _, rfl, _, _, _, _, rfl, .lst g2, kit_list_tuple K, rfl, _, rfl, iteNS rfl ?_⟩
      case' tup a2 w2 es h2 t2 =>
        obtain ⟨a1, w1, rfl, h1, t1⟩ : ∃ a1 w1, v1 = .ref a1 ∧ G2 a1 = some (.tup w1) ∧ Reps G2 w1 es := by
          cases r1 with
          | tup h t => exact ⟨_, _, rfl, h, t⟩
        have g1 := s4 _ _ (sg3 _ _ h1)
        have g2 := s4 _ _ (sg3 _ _ h2)
        have gf1 : ∀ H', Same G2 H' → SqL K H' a1 w1 ∨ SqT K H' a1 w1 := fun H' e => .inr (SqT.of (e _ _ h1))
        have gf2 : ∀ H', Same G2 H' → SqL K H' a2 w2 ∨ SqT K H' a2 w2 := fun H' e => .inr (SqT.of (e _ _ h2))
        have hds : sizes ds0 + (1 + sizes es) = m := by rw [D.size] at hsz0; exact hsz0
        refine ⟨_, qt, _, _, _, _, rfl, upd_same, .tup g2, kit2_tuple K, _, rfl, iteT ?_⟩
        refine ⟨_, rfl, _, _, _, _, rfl, .tup g1, kit_tuple_list K, _, rfl, _, _, _, _, rfl, .tup g2, kit_tuple_list K, rfl, _, rfl, iteNS rfl ?_⟩
        refine ⟨_, rfl, _, _, _, _, rfl, .tup g1, kit_tuple_tuple K, _, rfl, _, _, _, _, rfl, .tup g2, kit_tuple_tuple K, rfl, _, rfl, iteNS rfl ?_⟩
      all_goals
        have l1 := t1.length
        have l2 := t2.length
        have les := length_le_sizes es
        have ld0 : t0.length ≤ sizes ds0 := by rw [paired_length hP0]; exact length_le_sizes ds0
        have sg4 := sg3.trans s4
        -- len(_law_one) != len(_law_other)
        refine ⟨_, rfl, a1, w1, rfl, gf1 _ sg4, _, rfl, a2, w2, rfl, gf2 _ sg4, rfl, _, rfl, iteNS (by rw [l1, l2]) ?_⟩
        refine ⟨_, rfl, a2, w2, rfl, gf2 _ sg4, _, rfl, by omega, by omega, for_rangeG
          (fun i σ H5 => ∃ (G5 : Hp) (cur : List V) (z5 : Option V), σ = [some v, some u, some (.ref pt), some (.ref a1), some (.ref a2), z5] ∧ Same G2 G5 ∧ Same G5 H5 ∧ Same H H5 ∧ G5 pt = none ∧ H5 pt = some (.lst cur) ∧ Paired (PairRel G5) cur (ds0 ++ es.take i))
          ⟨G2, t0, _, rfl, Same.refl _, sg4, sh3.trans s4, npt, s4 _ _ hpt3, by rw [List.take_zero, List.append_nil]; exact hP0⟩ ?_ ?_⟩
        · intro i σ H5 hi hZp R1 hnx1 hrx1
          refine fold_goal fun Zg hZg => ?_
          obtain ⟨G5, cur, z5, rfl, sg25, sg5, sh5, np5, hp5, hPc⟩ := hZp
          refine hZg ?_
          clear hZg Zg
          have hi2 : i < es.length := by rw [← l2]; simpa using hi
          obtain ⟨y1, hy1, ry1⟩ := t1.get (i := i) (d := es[i]) (List.getElem?_eq_getElem hi2)
          obtain ⟨y2, hy2, ry2⟩ := t2.get (i := i) (d := es[i]) (List.getElem?_eq_getElem hi2)
          have a1' : atI w1 (0 + (i : Int)) = some y1 := by rw [Int.zero_add]; exact atI_nat hy1
          have a2' : atI w2 (0 + (i : Int)) = some y2 := by rw [Int.zero_add]; exact atI_nat hy2
          have lc : cur.length ≤ sizes ds0 + sizes es := by
            rw [paired_length hPc, List.length_append, List.length_take]
            have := length_le_sizes ds0
            omega
          refine ⟨_, rfl, .inl ⟨rfl, _, SqL.of hp5⟩, _, rfl, _, rfl, ixAny (gf1 _ (sg25.trans sg5)) a1' ⟨_, rfl, _, rfl, ixAny (gf2 _ (sg25.trans sg5)) a2' ⟨by show 2 ≤ sizeLine; decide, fun qn hqn => ⟨pt, cur, _, rfl, rfl, same_upd hqn _ _ hp5, by omega, ?_⟩⟩⟩⟩
          have x6 : Ext G5 H5 (upd G5 qn (.tup [y1, y2])) (upd H5 qn (.tup [y1, y2])) := Ext.add sg5 hqn
          have np6 : upd G5 qn (.tup [y1, y2]) pt = none := x6.keep hp5 np5
          refine hnx1 _ _ ⟨upd G5 qn (.tup [y1, y2]), cur ++ [.ref qn], _, rfl, sg25.trans x6.g, same_mut x6.gh np6, same_mut (sh5.trans x6.h) hptH, np6, upd_same, ?_⟩
          rw [List.take_succ_eq_append_getElem hi2, ← List.append_assoc]
          exact paired_app (paired_mono (fun _ _ z => z.mono x6.g) hPc) (.cons ⟨qn, y1, y2, rfl, upd_same, (ry1.mono sg25).mono x6.g, (ry2.mono sg25).mono x6.g⟩ .nil)
        · intro σ H5 hZp
          refine fold_goal fun Zg hZg => ?_
          obtain ⟨G5, cur, z5, rfl, sg25, sg5, sh5, np5, hp5, hPc⟩ := hZp
          refine hZg ?_
          clear hZg Zg
          rw [Int.toNat_natCast, List.take_of_length_le (by omega)] at hPc
          exact hnx0 _ _ ⟨sizes ds0 + sizes es, by omega, G5, cur, ds0 ++ es, _, _, _, rfl, sg5, sh5, np5, hp5, hPc, sizes_append _ _, by omega⟩
end
end K3
namespace K3
open PySem L2 TT
/-- between two turns of the search that takes the last job -/
noncomputable def AllInv (G H : Hp) (v : V) (pf pt : Addr) (C : List (List Int)) (m : Nat) (σ : L2.St) (H2 : Hp) : Prop := ∃ (G2 : Hp) (fv : List V) (F : List (List Int)) (tv : List V) (J : List Job) (a b c : Option V),
  σ = [some v, some (.ref pf), some (.ref pt), a, b, c] ∧ Ext G H G2 H2 ∧ G2 pf = none ∧ G2 pt = none ∧ pf ≠ pt ∧ H2 pf = some (.lst fv) ∧ H2 pt = some (.lst tv) ∧ Paired (PathRel G2) fv F ∧ Paired (JobRel G2) tv J ∧
  (F ++ allOf J).Perm C ∧ J.length ≤ F.length + 1 ∧ (∀ j ∈ J, j.1.length ≤ F.length) ∧ (allOf J).length + J.length = m
section
variable {P : Program} {w : World} {K : PySem.W.Frag} {mg : Str → Option Value} {base : Heap}
/-! ### _law_all_paths -/
noncomputable def spAll : Sp := fun vs H Q _ => ∃ (G : Hp) (v : V) (ts : List Tr), vs = [v] ∧ Same G H ∧ Rep G v (rowD ts) ∧ knotsOf ts < 64 ∧
  ∀ (G' H' : Hp) (r : V) (ps : List (List Int)), Ext G H G' H' → Rep G' r (.lst (ps.map pathD)) → ps.Perm (pps 0 ts) → Rising ps → Q r H'
theorem scAll : FnScope ["_law_row", "_law_found", "_law_todo", "_law_path", "_law_trees", "_law_k"] ["_law_row"] (defScope sAll) := ⟨rfl, rfl, rfl, by decide +kernel, rfl, by decide +kernel, by decide +kernel⟩
theorem ok_all {f : Addr} {fd : FuncData} (F : Fun K "_law_all_paths" "_law_all_paths" sAll f fd) (T : Txt mg) : FnOk P w K mg base CX0 7 f fd ["_law_row"] spAll := by
  refine F.ok scAll (fun vs H Q E h => ?_) (fun cdv A outer s H vs Q E hr h => ?_)
  · refine fold_goal fun Zg hZg => ?_
    obtain ⟨G, v, ts, rfl, _⟩ := h
    refine hZg ?_
    clear hZg Zg
    rfl
  · refine fold_goal fun Zg hZg => ?_
    obtain ⟨G, v, ts, rfl, sm, rv, h64, k⟩ := h
    refine hZg ?_
    clear hZg Zg
    have nd := scAll.nd
    have hu := hr.units0
    have hu2 := (hr.in1.in1).units0
    have big := line_big
    refine ⟨_, (pss_cons (ps_set (i := 1) nd rfl (Or.inl rfl) (pe_lst pa_nil))
      (pss_cons (ps_set (i := 2) nd rfl (Or.inl rfl) (pe_lst (pa_cons (pe_tup (pa_cons (pe_lst pa_nil) (pa_cons (pe_callTy call_list_of rfl T.list bt_list (pa_cons (pv 0) pa_nil)) pa_nil))) pa_nil)))
      (pss_cons (ps_while PassesOwn.never (pt_cmpR (op_neE hu) (pv 2) (pe_lst pa_nil) (nomark _))
        (pss_cons (ps_asg (pe_bm0 PySem.F.plainAttrs_list PySem.F.slot_list_pop PySem.F.type_list_pop mt_pop (pv 2)) (pg_tup rfl (pgs_cons (pg_name (i := 3) nd rfl (Or.inl rfl)) (pgs_cons (pg_name (i := 4) nd rfl (Or.inl rfl)) pgs_nil))))
        (pss_one (ps_for PassesOwn.never rfl (pi_range1 rfl T.range (pa_cons (pe_callB call_len_seq rfl T.len bt_len (pa_cons (pv 4) pa_nil)) pa_nil)) (pg_name (i := 5) nd rfl (Or.inl rfl))
          (pss_cons (ps_expr (pe_bm PySem.F.plainAttrs_list PySem.F.slot_list_append PySem.F.type_list_append mt_append (pv 1) (pa_cons (pe_op op_cat (pv 3) (pe_lst (pa_cons (pv 5) pa_nil))) pa_nil)))
          (pss_one (ps_expr (pe_bm PySem.F.plainAttrs_list PySem.F.slot_list_append PySem.F.type_list_append mt_append (pv 2) (pa_cons (pe_tup (pa_cons (pe_op op_cat (pv 3) (pe_lst (pa_cons (pv 5) pa_nil))) (pa_cons (pe_callTy call_list_of rfl T.list bt_list (pa_cons (pe_slice sl_tup (pe_ix ix_list (pv 4) (pv 5) (fun _ _ => rfl)) (po_some pe_int) po_none) pa_nil)) pa_nil))) pa_nil)))))))))
      (pss_one (ps_ret (pe_callB (call_sorted hu2) rfl T.sorted bt_sorted (pa_cons (pv 1) pa_nil))))))), ?_⟩
    have hC : (pps 0 ts).length < 64 := by rw [pps_length]; exact h64
    refine fold_goal fun Zg hZg => ?_
    obtain ⟨ra, rvs, rfl, hra, rts⟩ := rv.row
    refine hZg ?_
    clear hZg Zg
    -- found = []; todo = [([], list(row))]
    refine ⟨Nat.zero_le _, fun pf hpf => ⟨Nat.zero_le _, fun pp hpp => ?_⟩⟩
    have npf : G pf = none := sm.none hpf
    have y0 : Ext G (upd H pf (.lst [])) G (upd H pf (.lst [])) := Ext.refl (sm.trans (same_upd hpf))
    have y1 := y0.trans (Ext.add (o := .lst []) y0.gh hpp)
    refine ⟨_, rfl, ra, rvs, rfl, .inl (SqL.of (y1.gh _ _ (y1.g _ _ hra))), fun pl hpl => ?_⟩
    have y2 := y1.trans (Ext.add (o := .lst rvs) y1.gh hpl)
    refine ⟨by show 2 ≤ sizeLine; decide, fun q0 hq0 => ⟨by show 1 ≤ sizeLine; decide, fun pt hpt => ?_⟩⟩
    have y3 := y2.trans (Ext.add (o := .tup [.ref pp, .ref pl]) y2.gh hq0)
    have y4 := y3.trans (Ext.tmp (o := .lst [.ref q0]) y3.gh hpt)
    have x0 : Ext G H G (upd H pf (.lst [])) := Ext.tmp sm hpf
    have x4 := x0.trans y4
    have npt : H pt = none := (x0.trans y3).h.none hpt
    refine ⟨AllInv G H (.ref ra) pf pt (pps 0 ts), ⟨_, _, [], [], [.ref q0], [([], ts)], none, none, none, rfl, x4, y4.keep upd_same npf, y3.gh.none hpt, ne_of_none (y3.h _ _ upd_same) hpt, y4.h _ _ upd_same, upd_same, .nil, .cons ⟨q0, _, _, rfl, upd_same, .lst ?_ .nil, .lst (vs := rvs) ?_ ?_⟩ .nil, ?_, ?_, ?_, rfl⟩, ?_⟩
    · exact (Ext.add (o := .tup [.ref pp, .ref pl]) y2.gh hq0).g _ _ ((Ext.add (o := .lst rvs) y1.gh hpl).g _ _ upd_same)
    · exact (Ext.add (o := .tup [.ref pp, .ref pl]) y2.gh hq0).g _ _ upd_same
    · exact rts.mono y3.g
    · rw [List.nil_append, allOf_cons, allOf_nil, List.append_nil]
      exact List.Perm.of_eq (by unfold Job.all; simp)
    · simp
    · intro j hj
      have : j = ([], ts) := by simpa using hj
      subst this
      exact Nat.le_refl _
    intro m σ H2 hZp
    refine fold_goal fun Zg hZg => ?_
    obtain ⟨G2, fv, Fo, tv, J, z3, z4, z5, rfl, x, nf, nt, hne, hf2, ht2, hF, hJ, hperm, hlen, hdeep, hm⟩ := hZp
    refine hZg ?_
    clear hZg Zg
    have hFC : Fo.length + (allOf J).length < 64 := by
      have := hperm.length_eq
      rw [List.length_append] at this
      omega
    have hfl := paired_length hF
    have hjl := paired_length hJ
    -- while todo != []
    refine ⟨_, rfl, Nat.zero_le _, fun pe hpe => ⟨pt, pe, tv, rfl, rfl, SqL.of (same_upd hpe _ _ ht2), SqL.of upd_same, _, rfl, ?_⟩⟩
    have x1 := x.trans (Ext.tmp (o := .lst []) x.gh hpe)
    have hf1 := same_upd (o := .lst []) hpe _ _ hf2
    have ht1 := same_upd (o := .lst []) hpe _ _ ht2
    cases he : tv.isEmpty with
    | true =>
      refine iteF ?_
      have e1 : tv = [] := List.isEmpty_iff.mp he
      subst e1
      cases hJ
      rw [allOf_nil, List.append_nil] at hperm
      refine ⟨_, rfl, pf, fv, Fo, PathRel G2, rfl, SqL.of hf1, hF, fun v' q' r' => rel_path x1.gh r', by omega, fun l vs' ps' hl hR hp hri => ?_⟩
      have x2 := x1.trans (Ext.add (o := .lst vs') x1.gh hl)
      exact k _ _ _ ps' x2 (.lst upd_same (paths_reps (paired_mono (fun _ _ z => z.mono (Ext.add (o := .lst vs') x1.gh hl).g) hR))) (hp.trans hperm) hri
    | false =>
      refine iteT ⟨fun σ' H' => ∃ m', m' < m ∧ AllInv G H (.ref ra) pf pt (pps 0 ts) m' σ' H', fun _ _ z => z, ?_⟩
      refine fold_goal fun Zg hZg => ?_
      obtain ⟨t0, y, rfl⟩ := last_of tv he
      refine hZg ?_
      clear hZg Zg
      refine fold_goal fun Zg hZg => ?_
      obtain ⟨J0, j, rfl, hJ0, q, v1, v2, rfl, hq, r1, r2⟩ := paired_snoc hJ
      refine hZg ?_
      clear hZg Zg
      obtain ⟨p, us⟩ := j
      refine fold_goal fun Zg hZg => ?_
      obtain ⟨pa, rfl, hpa⟩ := Rep.path r1
      refine hZg ?_
      clear hZg Zg
      refine fold_goal fun Zg hZg => ?_
      obtain ⟨ta, uvs, rfl, hta, rus⟩ := r2.row
      refine hZg ?_
      clear hZg Zg
      have hsub : (subs p 0 us).length = us.length := subs_length p 0 us
      have hj1 : p.length ≤ Fo.length := hdeep (p, us) (by simp)
      have hsplit : (Job.all (p, us)).length = (subs p 0 us).length + (allOf (subs p 0 us)).length := by
        have h := (job_split (p, us)).length_eq
        rw [List.length_append, List.length_map] at h
        exact h
      have hall : (allOf (J0 ++ [(p, us)])).length = (allOf J0).length + (Job.all (p, us)).length := by
        rw [allOf_append, allOf_cons, allOf_nil, List.append_nil, List.length_append]
      have hjl0 : (J0 ++ [(p, us)]).length = J0.length + 1 := by simp
      have hul : uvs.length = us.length := by
        have h := rus.length
        rw [List.length_map] at h
        exact h
      -- pop
      refine ⟨_, rfl, .inl ⟨rfl, _, SqL.of ht1⟩, pt, _, _, rfl, rfl, ht1, last_at t0 _, q, [.ref pa, .ref ta], rfl, SqT.of ?_, rfl, _, _, rfl, _, _, rfl, rfl, ?_⟩
      · exact same_mut x1.gh nt _ _ hq
      rw [List.dropLast_concat]
      have x3 := x1.mut (o := .lst t0) nt npt
      have hf3 : upd (upd H2 pe (.lst [])) pt (.lst t0) pf = some (.lst fv) := by rw [upd_ne hne]; exact hf1
      -- for k in range(len(trees))
      refine ⟨_, rfl, ta, uvs, rfl, .inl (SqL.of (x3.gh _ _ hta)), _, rfl, by omega, by omega, for_rangeG
        (fun i σ H5 => ∃ (G5 : Hp) (fv5 tv5 : List V) (z : Option V), σ = [some (.ref ra), some (.ref pf), some (.ref pt), some (.ref pa), some (.ref ta), z] ∧ Ext G H G5 H5 ∧ Same G2 G5 ∧ G5 pf = none ∧ G5 pt = none ∧ H5 pf = some (.lst fv5) ∧ H5 pt = some (.lst tv5) ∧
          Paired (PathRel G5) fv5 (Fo ++ ((subs p 0 us).take i).map (·.1)) ∧ Paired (JobRel G5) tv5 (J0 ++ (subs p 0 us).take i))
        ⟨G2, fv, t0, _, rfl, x3, Same.refl _, nf, nt, hf3, upd_same, by simpa using hF, by simpa using hJ0⟩ ?_ ?_⟩
      · intro i σ H5 hi hZp R0 hnx0 hrx0
        refine fold_goal fun Zg hZg => ?_
        obtain ⟨G5, fv5, tv5, z, rfl, x5, s25, nf5, nt5, hf5, ht5, hF5, hJ5⟩ := hZp
        refine hZg ?_
        clear hZg Zg
        have hi2 : i < us.length := by rw [← hul]; simpa using hi
        have hiu : i < (subs p 0 us).length := by omega
        have hsi : (subs p 0 us)[i]? = some (p ++ [(i : Int)], us[i].kids) := by
          have := subs_at p us 0 i hi2
          rwa [Nat.zero_add] at this
        have hfl5 := paired_length hF5
        have hjl5 := paired_length hJ5
        rw [List.length_append, List.length_map, List.length_take] at hfl5
        rw [List.length_append, List.length_take] at hjl5
        obtain ⟨tr, htr, rtr⟩ := rus.get (i := i) (d := us[i].d) (by rw [List.getElem?_map, List.getElem?_eq_getElem hi2]; rfl)
        refine fold_goal fun Zg hZg => ?_
        obtain ⟨tra, kv, rfl, htra, rkv⟩ := rtr.tree
        refine hZg ?_
        clear hZg Zg
        have hat : atI uvs (0 + (i : Int)) = some (.ref tra) := by rw [Int.zero_add]; exact atI_nat htr
        have hpa5 := x5.gh _ _ (s25 _ _ hpa)
        -- found.append(path + [k])
        refine ⟨_, rfl, .inl ⟨rfl, _, SqL.of hf5⟩, _, rfl, _, rfl, by show 1 ≤ sizeLine; decide, fun a1 h1 => ⟨pa, a1, _, _, rfl, rfl, same_upd h1 _ _ hpa5, upd_same, by rw [List.length_map]; show p.length + 1 ≤ sizeLine; omega, fun a2 h2 => ?_⟩⟩
        have w1 := x5.trans (Ext.tmp (o := .lst [V.int (0 + (i : Int))]) x5.gh h1)
        have w2 := w1.trans (Ext.add (o := .lst (p.map V.int ++ [V.int (0 + (i : Int))])) w1.gh h2)
        have s2 : Same G5 (upd G5 a2 (.lst (p.map V.int ++ [V.int (0 + (i : Int))]))) := same_upd (w1.gh.none h2)
        have nf2 : upd G5 a2 (.lst (p.map V.int ++ [V.int (0 + (i : Int))])) pf = none := by rw [upd_ne (ne_of_none (same_upd h1 _ _ hf5) h2)]; exact nf5
        have nt2 : upd G5 a2 (.lst (p.map V.int ++ [V.int (0 + (i : Int))])) pt = none := by rw [upd_ne (ne_of_none (same_upd h1 _ _ ht5) h2)]; exact nt5
        have hf6 := same_upd (o := .lst (p.map V.int ++ [V.int (0 + (i : Int))])) h2 _ _ (same_upd (o := .lst [V.int (0 + (i : Int))]) h1 _ _ hf5)
        have ht6 := same_upd (o := .lst (p.map V.int ++ [V.int (0 + (i : Int))])) h2 _ _ (same_upd (o := .lst [V.int (0 + (i : Int))]) h1 _ _ ht5)
        refine ⟨pf, fv5, _, rfl, rfl, hf6, by omega, ?_⟩
        have w3 := w2.mut (o := .lst (fv5 ++ [V.ref a2])) nf2 hpf
        have ht7 : upd (upd (upd H5 a1 (.lst [V.int (0 + (i : Int))])) a2 (.lst (p.map V.int ++ [V.int (0 + (i : Int))]))) pf (.lst (fv5 ++ [V.ref a2])) pt = some (.lst tv5) := by
          rw [upd_ne (Ne.symm hne)]
          exact ht6
        have hf7 : upd (upd (upd H5 a1 (.lst [V.int (0 + (i : Int))])) a2 (.lst (p.map V.int ++ [V.int (0 + (i : Int))]))) pf (.lst (fv5 ++ [V.ref a2])) pf = some (.lst (fv5 ++ [V.ref a2])) := upd_same
        have hF7 : Paired (PathRel (upd G5 a2 (.lst (p.map V.int ++ [V.int (0 + (i : Int))])))) (fv5 ++ [V.ref a2]) (Fo ++ ((subs p 0 us).take (i + 1)).map (·.1)) := by
          rw [take_one hsi, List.map_append, ← List.append_assoc]
          refine paired_app (paired_mono (fun _ _ r => r.mono s2) hF5) (.cons ?_ .nil)
          refine .lst upd_same ?_
          rw [Int.zero_add, ← List.map_singleton (f := V.int), ← List.map_append]
          exact ints_reps _
        generalize upd (upd (upd H5 a1 (.lst [V.int (0 + (i : Int))])) a2 (.lst (p.map V.int ++ [V.int (0 + (i : Int))]))) pf (.lst (fv5 ++ [V.ref a2])) = H7 at w3 hf7 ht7 ⊢
        generalize upd G5 a2 (.lst (p.map V.int ++ [V.int (0 + (i : Int))])) = G7 at w3 s2 nf2 nt2 hF7
        have hpa7 := w3.gh _ _ (s2 _ _ (s25 _ _ hpa))
        -- todo.append((path + [k], list(trees[k][1:])))
        refine ⟨_, rfl, .inl ⟨rfl, _, SqL.of ht7⟩, _, rfl, _, rfl, by show 1 ≤ sizeLine; decide, fun b1 hb1 => ⟨pa, b1, _, _, rfl, rfl, same_upd hb1 _ _ hpa7, upd_same, by rw [List.length_map]; show p.length + 1 ≤ sizeLine; omega, fun b2 hb2 => ?_⟩⟩
        have u1 := w3.trans (Ext.tmp (o := .lst [V.int (0 + (i : Int))]) w3.gh hb1)
        have u2 := u1.trans (Ext.add (o := .lst (p.map V.int ++ [V.int (0 + (i : Int))])) u1.gh hb2)
        have e2 : Same G7 (upd G7 b2 (.lst (p.map V.int ++ [V.int (0 + (i : Int))]))) := same_upd (u1.gh.none hb2)
        refine ⟨_, rfl, _, rfl, ta, uvs, _, _, rfl, rfl, SqL.of (u2.gh _ _ (e2 _ _ (s2 _ _ (s25 _ _ hta)))), hat, _, rfl, tra, _, rfl, SqT.of (u2.gh _ _ (e2 _ _ (s2 _ _ (s25 _ _ htra)))), kids_not _ _, fun b3 hb3 => ?_⟩
        rw [kids_cut]
        have u3 := u2.trans (Ext.tmp (o := .tup kv) u2.gh hb3)
        refine ⟨b3, kv, rfl, .inr (SqT.of upd_same), fun b4 hb4 => ⟨by show 2 ≤ sizeLine; decide, fun b5 hb5 => ?_⟩⟩
        have u4 := u3.trans (Ext.add (o := .lst kv) u3.gh hb4)
        have u5 := u4.trans (Ext.add (o := .tup [.ref b2, .ref b4]) u4.gh hb5)
        have v7 : Ext G7 H7 G7 H7 := Ext.refl w3.gh
        have v1 := v7.trans (Ext.tmp (o := .lst [V.int (0 + (i : Int))]) v7.gh hb1)
        have v2 := v1.trans (Ext.add (o := .lst (p.map V.int ++ [V.int (0 + (i : Int))])) v1.gh hb2)
        have v3 := v2.trans (Ext.tmp (o := .tup kv) v2.gh hb3)
        have v4 := v3.trans (Ext.add (o := .lst kv) v3.gh hb4)
        have v5 := v4.trans (Ext.add (o := .tup [.ref b2, .ref b4]) v4.gh hb5)
        refine ⟨pt, tv5, _, rfl, rfl, v5.h _ _ ht7, by omega, ?_⟩
        refine hnx0 _ _ ⟨_, fv5 ++ [V.ref a2], tv5 ++ [V.ref b5], _, rfl, u5.mut (v5.keep ht7 nt2) npt, s25.trans (s2.trans v5.g), v5.keep hf7 nf2, v5.keep ht7 nt2, ?_, upd_same, paired_mono (fun _ _ r => r.mono v5.g) hF7, ?_⟩
        · rw [upd_ne hne]; exact v5.h _ _ hf7
        · rw [take_one hsi, ← List.append_assoc]
          have gb2 : Same (upd G7 b2 (.lst (p.map V.int ++ [V.int (0 + (i : Int))]))) (upd (upd G7 b2 (.lst (p.map V.int ++ [V.int (0 + (i : Int))]))) b4 (.lst kv)) := same_upd (v3.gh.none hb4)
          have gb4 : Same (upd (upd G7 b2 (.lst (p.map V.int ++ [V.int (0 + (i : Int))]))) b4 (.lst kv)) (upd (upd (upd G7 b2 (.lst (p.map V.int ++ [V.int (0 + (i : Int))]))) b4 (.lst kv)) b5 (.tup [.ref b2, .ref b4])) := same_upd (v4.gh.none hb5)
          refine paired_app (paired_mono (fun _ _ r => (r.mono s2).mono v5.g) hJ5) (.cons ⟨b5, _, _, rfl, upd_same, .lst (gb4 _ _ (gb2 _ _ upd_same)) ?_, .lst (gb4 _ _ upd_same) (((rkv.mono s25).mono s2).mono v5.g)⟩ .nil)
          rw [Int.zero_add, ← List.map_singleton (f := V.int), ← List.map_append]
          exact ints_reps _
      · intro σ H5 hZp
        refine fold_goal fun Zg hZg => ?_
        obtain ⟨G5, fv5, tv5, z, rfl, x5, s25, nf5, nt5, hf5, ht5, hF5, hJ5⟩ := hZp
        refine hZg ?_
        clear hZg Zg
        rw [Int.toNat_natCast, List.take_of_length_le (by omega)] at hF5 hJ5
        refine ⟨(allOf (J0 ++ subs p 0 us)).length + (J0 ++ subs p 0 us).length, ?_, G5, fv5, _, tv5, _, _, _, _, rfl, x5, nf5, nt5, hne, hf5, ht5, hF5, hJ5, turn_last hperm, ?_, ?_, rfl⟩
        · rw [allOf_append, List.length_append, List.length_append]
          omega
        · rw [List.length_append, List.length_append, List.length_map]
          omega
        · intro j hj
          rw [List.length_append, List.length_map]
          rcases List.mem_append.mp hj with h | h
          · have := hdeep j (by simp [h])
            omega
          · refine fold_goal fun Zg hZg => ?_
            obtain ⟨i, hi, ei⟩ := List.mem_iff_getElem.mp h
            refine hZg ?_
            clear hZg Zg
            have hi2 : i < us.length := by omega
            have e1 := subs_at p us 0 i hi2
            rw [List.getElem?_eq_getElem hi, ei] at e1
            cases e1
            show (p ++ [_]).length ≤ _
            rw [List.length_append, List.length_singleton]
            omega
end
end K3
namespace K3
open PySem L2 TT
/-- a level and the place taken in it -/
noncomputable def abD (ts : List Tr) (F : List Int) (j : Nat) : D := .tup [rowD ((down ts (F.take j)).getD []), .int (F.getD j 0)]
noncomputable def absD (ts : List Tr) (F : List Int) (i : Nat) : List D := (List.range i).map (abD ts F)
theorem absD_succ (ts : List Tr) (F : List Int) (i : Nat) : absD ts F (i + 1) = absD ts F i ++ [abD ts F i] := by unfold absD; rw [List.range_succ, List.map_append]; rfl
theorem absD_length (ts : List Tr) (F : List Int) (i : Nat) : (absD ts F i).length = i := by unfold absD; rw [List.length_map, List.length_range]
theorem pair_of {G : Hp} {v : V} {us : List Tr} {k : Int} (r : Rep G v (.tup [rowD us, .int k])) : ∃ q u, v = .ref q ∧ G q = some (.tup [u, .int k]) ∧ Rep G u (rowD us) := by
  cases r with
  | tup h t => cases t with
    | cons r1 t => cases t with
      | cons r2 t =>
        cases t; cases r2
        exact ⟨_, _, rfl, h, r1⟩
theorem beside_none {st : Stp} {ts : List Tr} (h : st.path = [] ∨ down ts st.path.dropLast = none) : st.beside ts = none := by
  unfold Stp.beside
  by_cases hp : st.path = []
  · rw [if_pos hp]
  · rw [if_neg hp]
    rcases h with h | h
    · exact absurd h hp
    · rw [h]; rfl
section
variable {P : Program} {w : World} {K : PySem.W.Frag} {mg : Str → Option Value} {base : Heap}
/-! ### _law_stepped -/
noncomputable def spStepped : Sp := fun vs H Q _ => ∃ (G : Hp) (v u : V) (ts : List Tr) (st : Stp), vs = [v, u] ∧ Same G H ∧ Rep G v (rowD ts) ∧ Rep G u st.d ∧ st.Fit ∧ knotsOf ts ≤ 900 ∧
  (∀ bs, st.beside ts = some bs → ∀ (G' H' : Hp) (r : V), Ext G H G' H' → Rep G' r (rowD (st.row ts bs)) → Q r H') ∧ (st.beside ts = none → ∀ H' : Hp, Same H H' → Q .non H')
theorem scStepped : FnScope ["_law_row", "_law_step", "_law_path", "_law_above", "_law_trees", "_law_k", "_law_here", "_law_many", "_law_made", "_law_beside"] ["_law_row", "_law_step"] (defScope sStepped) := ⟨rfl, rfl, rfl, by decide +kernel, rfl, by decide +kernel, by decide +kernel⟩
theorem ok_stepped {f : Addr} {fd : FuncData} (F : Fun K "_law_stepped" "_law_stepped" sStepped f fd) (T : Txt mg) : FnOk P w K mg base CX0 5 f fd ["_law_row", "_law_step"] spStepped := by
  refine F.ok scStepped (fun vs H Q E h => ?_) (fun cdv A outer s H vs Q E hr h => ?_)
  · refine fold_goal fun Zg hZg => ?_
    obtain ⟨G, v, u, ts, st, rfl, _⟩ := h
    refine hZg ?_
    clear hZg Zg
    rfl
  · refine fold_goal fun Zg hZg => ?_
    obtain ⟨G, v, u, ts, st, rfl, sm, rv, ru, hfit, hkt, kq, kn⟩ := h
    refine hZg ?_
    clear hZg Zg
    have nd := scStepped.nd
    have hu := hr.units0
    have big := line_big
    have hpl := hfit.1
    refine ⟨_, (pss_cons (ps_set (i := 2) nd rfl (Or.inl rfl) (pe_ix ix_tup (pv 1) pe_int (fun _ _ => rfl)))
      (pss_cons (ps_if (pt_cmpR (op_eqE hu) (pv 2) (pe_lst pa_nil) (nomark _))
        (pss_one (ps_ret pe_non))
        pss_nil)
      (pss_cons (ps_set (i := 3) nd rfl (Or.inl rfl) (pe_lst pa_nil))
      (pss_cons (ps_set (i := 4) nd rfl (Or.inl rfl) (pe_callTy call_list_of rfl T.list bt_list (pa_cons (pv 0) pa_nil)))
      (pss_cons (ps_for PassesOwn.never rfl (pi_list (pe_slice sl_list (pv 2) po_none (po_some (pe_un un_neg pe_int)))) (pg_name (i := 5) nd rfl (Or.inl rfl))
        (pss_cons (ps_if (PW.pt (pw_or (pt_cmpR op_lt (pv 5) pe_int (nomark _)) (pw_or1 (pt_cmpR op_ge (pv 5) (pe_callB call_len_seq rfl T.len bt_len (pa_cons (pv 4) pa_nil)) (nomark _)))))
          (pss_one (ps_ret pe_non))
          pss_nil)
        (pss_cons (ps_expr (pe_bm PySem.F.plainAttrs_list PySem.F.slot_list_append PySem.F.type_list_append mt_append (pv 3) (pa_cons (pe_tup (pa_cons (pv 4) (pa_cons (pv 5) pa_nil))) pa_nil)))
        (pss_one (ps_set (i := 4) nd rfl (Or.inl rfl) (pe_callTy call_list_of rfl T.list bt_list (pa_cons (pe_slice sl_tup (pe_ix ix_list (pv 4) (pv 5) (fun _ _ => rfl)) (po_some pe_int) po_none) pa_nil)))))))
      (pss_cons (ps_set (i := 6) nd rfl (Or.inl rfl) (pe_ix ix_list (pv 2) (pe_un un_neg pe_int) (fun _ _ => rfl)))
      (pss_cons (ps_set (i := 7) nd rfl (Or.inl rfl) pe_int)
      (pss_cons (ps_ifM (pt_cmpR op_eq (pe_ix ix_tup (pv 1) pe_int (fun _ _ => rfl)) pe_str (nomark _))
        (pss_one (ps_set (i := 7) nd rfl (Or.inl rfl) (pe_ix ix_tup (pv 1) pe_int (fun _ _ => rfl))))
        pss_nil)
      (pss_cons (ps_if (PW.pt (pw_or (pt_cmpR op_lt (pv 6) pe_int (nomark _)) (pw_or (pt_cmpR op_lt (pv 7) pe_int (nomark _)) (pw_or1 (pt_cmpR op_gt (pe_op op_add (pv 6) (pv 7)) (pe_callB call_len_seq rfl T.len bt_len (pa_cons (pv 4) pa_nil)) (nomark _))))))
        (pss_one (ps_ret pe_non))
        pss_nil)
      (pss_cons (ps_set (i := 8) nd rfl (Or.inl rfl) (pe_lst pa_nil))
      (pss_cons (ps_ifM (pt_cmpR op_eq (pe_ix ix_tup (pv 1) pe_int (fun _ _ => rfl)) pe_str (nomark _))
        (pss_one (ps_set (i := 8) nd rfl (Or.inl rfl) (pe_lst (pa_cons (pe_callTy call_tuple_of rfl T.tuple bt_tuple (pa_cons (pe_op op_cat (pe_lst (pa_cons (pe_ix ix_tup (pv 1) pe_int (fun _ _ => rfl)) pa_nil)) (pe_slice sl_list (pv 4) (po_some (pv 6)) (po_some (pe_op op_add (pv 6) (pv 7))))) pa_nil)) pa_nil))))
        (pss_one (ps_if (pt_cmpR op_eq (pe_ix ix_tup (pv 1) pe_int (fun _ _ => rfl)) pe_str (nomark _))
          (pss_one (ps_set (i := 8) nd rfl (Or.inl rfl) (pe_callTy call_list_of rfl T.list bt_list (pa_cons (pe_slice sl_tup (pe_ix ix_list (pv 4) (pv 6) (fun _ _ => rfl)) (po_some pe_int) po_none) pa_nil))))
          (pss_one (ps_set (i := 8) nd rfl (Or.inl rfl) (pe_lst (pa_cons (pe_callTy call_tuple_of rfl T.tuple bt_tuple (pa_cons (pe_op op_cat (pe_lst (pa_cons (pe_ix ix_tup (pv 1) pe_int (fun _ _ => rfl)) pa_nil)) (pe_callTy call_list_of rfl T.list bt_list (pa_cons (pe_slice sl_tup (pe_ix ix_list (pv 4) (pv 6) (fun _ _ => rfl)) (po_some pe_int) po_none) pa_nil))) pa_nil)) pa_nil)))))))
      (pss_cons (ps_set (i := 8) nd rfl (Or.inl rfl) (pe_op op_cat (pe_op op_cat (pe_slice sl_list (pv 4) po_none (po_some (pv 6))) (pv 8)) (pe_slice sl_list (pv 4) (po_some (pe_op op_add (pv 6) (pv 7))) po_none)))
      (pss_cons (ps_for PassesOwn.never rfl (pi_rev rfl T.reversed (pa_cons (pv 3) pa_nil)) (pg_tup rfl (pgs_cons (pg_name (i := 9) nd rfl (Or.inl rfl)) (pgs_cons (pg_name (i := 5) nd rfl (Or.inl rfl)) pgs_nil)))
        (pss_one (ps_set (i := 8) nd rfl (Or.inl rfl) (pe_op op_cat (pe_op op_cat (pe_slice sl_list (pv 9) po_none (po_some (pv 5))) (pe_lst (pa_cons (pe_callTy call_tuple_of rfl T.tuple bt_tuple (pa_cons (pe_op op_cat (pe_lst (pa_cons (pe_ix ix_tup (pe_ix ix_list (pv 9) (pv 5) (fun _ _ => rfl)) pe_int (fun _ _ => rfl)) pa_nil)) (pv 8)) pa_nil)) pa_nil))) (pe_slice sl_list (pv 9) (po_some (pe_op op_add (pv 5) pe_int)) po_none)))))
      (pss_one (ps_ret (pv 8)))))))))))))))), ?_⟩
    refine fold_goal fun Zg hZg => ?_
    obtain ⟨a, sx, pa, rfl, ha, h0, h1, hp, _⟩ := ru.step
    refine hZg ?_
    clear hZg Zg
    have hpH := sm _ _ hp
    -- path = step[1]; if path == []
    refine ⟨_, rfl, a, sx, _, _, rfl, rfl, SqT.of (sm _ _ ha), atI_nat (j := 1) h1, ?_⟩
    refine ⟨_, rfl, Nat.zero_le _, fun pe hpe0 => ⟨pa, pe, _, rfl, rfl, SqL.of (same_upd hpe0 _ _ hpH), SqL.of upd_same, _, rfl, ?_⟩⟩
    have x0 : Ext G H G (upd H pe (.lst [])) := Ext.tmp sm hpe0
    cases hq : (st.path.map V.int).isEmpty with
    | true => exact iteT (kn (beside_none (.inl (by simpa using hq))) _ x0.h)
    | false =>
    have hpe : st.path ≠ [] := fun z => by rw [z] at hq; cases hq
    refine iteF ?_
    generalize hF : st.path.dropLast = Fp at *
    have hFl : Fp.length ≤ 1000 := by rw [← hF, List.length_dropLast]; omega
    -- above = []; trees = list(row)
    refine ⟨Nat.zero_le _, fun pA hpA => ?_⟩
    have x1 := x0.trans (Ext.tmp (o := .lst []) x0.gh hpA)
    have nHA : H pA = none := x0.h.none hpA
    have nGA : G pA = none := x0.gh.none hpA
    refine fold_goal fun Zg hZg => ?_
    obtain ⟨ra, rvs, rfl, hra, rts⟩ := rv.row
    refine hZg ?_
    clear hZg Zg
    refine ⟨_, rfl, ra, rvs, rfl, .inl (SqL.of (x1.gh _ _ hra)), fun pt hpt => ?_⟩
    have y2 := Ext.add (o := .lst rvs) x1.gh hpt
    have x2 := x1.trans y2
    have hA2 := same_upd (o := .lst rvs) hpt _ _ (upd_same (H := upd H pe (.lst [])) (a := pA) (o := .lst []))
    have nA2 : upd G pt (.lst rvs) pA = none := y2.keep upd_same nGA
    -- for k in path[:-1]
    try dsimp only
    refine seq_gen fun R1 hn1 hr1 => ?_
    refine ⟨_, rfl, _, rfl, _, rfl, pa, _, rfl, SqL.of (x2.gh _ _ (x2.g _ _ hp)), fun q1 h1q => ?_⟩
    rw [front_ints, hF]
    have y3 := Ext.add (o := .lst (Fp.map V.int)) x2.gh h1q
    have x3 := x2.trans y3
    have hA3 := same_upd (o := .lst (Fp.map V.int)) h1q _ _ hA2
    have nA3 := y3.keep hA2 nA2
    refine ⟨q1, rfl, ⟨_, SqL.of upd_same⟩, for_listG (K := K) (a := q1) (xs := Fp.map V.int)
      (fun i σ H5 => ∃ (G5 : Hp) (tv : V) (us : List Tr) (av : List V) (z5 : Option V), σ = [some (.ref ra), some (.ref a), some (.ref pa), some (.ref pA), some tv, z5, none, none, none, none] ∧ Ext G H G5 H5 ∧ Same (upd (upd G pt (.lst rvs)) q1 (.lst (Fp.map V.int))) G5 ∧ Rep G5 tv (rowD us) ∧ down ts (Fp.take i) = some us ∧
        G5 pA = none ∧ H5 pA = some (.lst av) ∧ Reps G5 av (absD ts Fp i))
      ⟨_, .ref pt, ts, [], none, rfl, x3, Same.refl _, .lst (y3.g _ _ upd_same) (rts.mono (y2.g.trans y3.g)), rfl, nA3, hA3, .nil⟩ (fun i σ H5 _ hZq => by obtain ⟨G5, _, _, _, _, _, x, s5, _⟩ := hZq; exact SqL.of (x.gh _ _ (s5 _ _ upd_same))) ?_ ?_⟩
    · intro i y σ H5 hi hZp R2 hn2 hr2
      refine fold_goal fun Zg hZg => ?_
      obtain ⟨G5, tv, us, av, z5, rfl, x, s5, rt, hd, nA, hA, rA⟩ := hZp
      refine hZg ?_
      clear hZg Zg
      have hil : i < Fp.length := by
        have := (List.getElem?_eq_some_iff.mp hi).1
        rwa [List.length_map] at this
      obtain rfl : V.int Fp[i] = y := by
        rw [List.getElem?_map, List.getElem?_eq_getElem hil] at hi
        exact Option.some.inj hi
      have hall : down ts Fp = down us (Fp[i] :: Fp.drop (i + 1)) := by
        have e := down_append ts (Fp.take i) (Fp.drop i)
        rw [List.take_append_drop, hd, List.drop_eq_getElem_cons hil] at e
        exact e
      refine fold_goal fun Zg hZg => ?_
      obtain ⟨ta, tvs, rfl, hta, rus⟩ := rt.row
      refine hZg ?_
      clear hZg Zg
      have hlen := rus.length
      rw [List.length_map] at hlen
      refine ⟨_, rfl, _, _, rfl, rfl, _, rfl, ?_⟩
      refine ite2 (fun hneg => ?_) (fun hneg => ?_)
      · refine iteT (hr2 _ _ (hr1 _ _ (kn (beside_none (.inr ?_)) _ x.h)))
        rw [hF, hall, down, if_pos (of_decide_eq_true hneg)]
      · have n0 : ¬ Fp[i] < 0 := fun z => hneg (decide_eq_true z)
        refine ⟨_, rfl, _, rfl, ta, tvs, rfl, .inl (SqL.of (x.gh _ _ hta)), _, _, rfl, rfl, _, rfl, ?_⟩
        refine ite2 (fun hge => ?_) (fun hge => ?_)
        · refine hr2 _ _ (hr1 _ _ (kn (beside_none (.inr ?_)) _ x.h))
          have hg := of_decide_eq_true hge
          have en : us[(Fp[i]).toNat]? = none := List.getElem?_eq_none_iff.mpr (by omega)
          rw [hF, hall, down, if_neg n0, en]
        · have n1 : ¬ (tvs.length : Int) ≤ Fp[i] := fun z => hge (decide_eq_true z)
          have hju : (Fp[i]).toNat < us.length := by omega
          have hget : us[(Fp[i]).toNat]? = some us[(Fp[i]).toNat] := List.getElem?_eq_getElem hju
          generalize us[(Fp[i]).toNat] = t at hget
          obtain ⟨tr, htr, rtr⟩ := rus.get (i := (Fp[i]).toNat) (d := t.d) (by rw [List.getElem?_map, hget]; rfl)
          have hix : atI tvs Fp[i] = some tr := by
            have := atI_nat htr
            rwa [Int.toNat_of_nonneg (by omega)] at this
          -- above.append((trees, k))
          refine ⟨_, rfl, .inl ⟨rfl, _, SqL.of hA⟩, _, rfl, _, rfl, (by show 2 ≤ sizeLine; decide), fun q6 h6 => ?_⟩
          have y6 := Ext.add (o := .tup [.ref ta, .int Fp[i]]) x.gh h6
          have x6 := x.trans y6
          have hA6 := same_upd (o := .tup [.ref ta, .int Fp[i]]) h6 _ _ hA
          have nA6 := y6.keep hA nA
          have hal := rA.length
          rw [absD_length] at hal
          refine ⟨pA, av, _, rfl, rfl, hA6, (by omega), ?_⟩
          have x7 := x6.mut (o := .lst (av ++ [.ref q6])) nA6 nHA
          -- trees = list(trees[k][1:])
          refine fold_goal fun Zg hZg => ?_
          obtain ⟨tra, kv, rfl, htra, rkv⟩ := rtr.tree
          refine hZg ?_
          clear hZg Zg
          have hta7 := x7.gh _ _ (y6.g _ _ hta)
          have htra7 := x7.gh _ _ (y6.g _ _ htra)
          refine ⟨_, rfl, _, rfl, ta, tvs, _, _, rfl, rfl, SqL.of hta7, hix, _, rfl, tra, _, rfl, SqT.of htra7, kids_not _ _, fun q8 h8 => ⟨q8, kv, rfl, .inr (SqT.of (by rw [upd_same, kids_cut])), fun q9 h9 => ?_⟩⟩
          have x8 := x7.trans (Ext.tmp (o := .tup (cutV (V.str t.mark :: kv) (some 1) none)) x7.gh h8)
          have y9 := Ext.add (o := .lst kv) x8.gh h9
          have x9 := x8.trans y9
          have hA8 : upd (upd (upd H5 q6 (.tup [.ref ta, .int Fp[i]])) pA (.lst (av ++ [.ref q6]))) q8 (.tup (cutV (V.str t.mark :: kv) (some 1) none)) pA = some (.lst (av ++ [.ref q6])) := same_upd h8 _ _ upd_same
          refine hn2 _ _ ⟨_, .ref q9, t.kids, _, _, rfl, x9, s5.trans (y6.g.trans y9.g), .lst upd_same ((rkv.mono y6.g).mono y9.g), ?_, y9.keep hA8 nA6, same_upd h9 _ _ hA8, ?_⟩
          · rw [List.take_succ_eq_append_getElem hil, down_append, hd]
            show down us [Fp[i]] = _
            rw [down, if_neg n0, hget]
            rfl
          · rw [absD_succ]
            refine ((rA.mono y6.g).mono y9.g).append (.cons ?_ .nil)
            unfold abD
            rw [hd]
            have eF : Fp.getD i 0 = Fp[i] := by rw [List.getD_eq_getElem?_getD, List.getElem?_eq_getElem hil]; rfl
            rw [eF]
            exact .tup (y9.g _ _ upd_same) (.cons ((rt.mono y6.g).mono y9.g) (.cons (.int _) .nil))
    · intro σ H5 hZp
      refine fold_goal fun Zg hZg => ?_
      obtain ⟨G5, tv, bs, av, z5, rfl, x, s5, rt, hd, nA, hA, rA⟩ := hZp
      refine hZg ?_
      clear hZg Zg
      refine hn1 _ _ ?_
      clear hn1 hr1 R1
      rw [List.length_map, List.take_length] at hd
      rw [List.length_map] at rA
      have hal := rA.length
      rw [absD_length] at hal
      have hp5 := x.gh _ _ (x.g _ _ hp)
      have ha5 := x.gh _ _ (x.g _ _ ha)
      have hput : ∀ p n m, st = .put p n m → sx[2]? = some (.int n) ∧ sx[3]? = some (.str m) := by
        rintro p n m rfl
        refine fold_goal fun Zg hZg => ?_
        obtain ⟨a', pa', e, ha'⟩ := put_of ru
        refine hZg ?_
        clear hZg Zg
        cases e
        rw [ha] at ha'
        cases ha'
        exact ⟨rfl, rfl⟩
      have hmrk : ∀ p m, st = .mark p m → sx[2]? = some (.str m) := by
        rintro p m rfl
        refine fold_goal fun Zg hZg => ?_
        obtain ⟨a', pa', e, ha'⟩ := mark_of_step ru
        refine hZg ?_
        clear hZg Zg
        cases e
        rw [ha] at ha'
        cases ha'
        rfl
      refine fold_goal fun Zg hZg => ?_
      obtain ⟨ta, tvs, rfl, hta, rbs⟩ := rt.row
      refine hZg ?_
      clear hZg Zg
      have hbl := rbs.length
      rw [List.length_map] at hbl
      have hta5 := x.gh _ _ hta
      have hkb := down_knots _ _ _ hd
      have hkbl := length_le_knots bs
      -- here = path[-1]; many = 1
      refine ⟨_, rfl, _, rfl, pa, _, _, _, rfl, rfl, SqL.of hp5, last_int hpe, ?_⟩
      -- if step[0] == "put": many = step[2]
      refine ⟨fun σ' H' => σ' = [some (.ref ra), some (.ref a), some (.ref pa), some (.ref pA), some (.ref ta), z5, some (.int (st.path.getLastD 0)), some (.int st.many), none, none] ∧ H' = H5, ?_, ?_⟩
      · refine ⟨_, rfl, a, sx, _, _, rfl, rfl, SqT.of ha5, atI_nat (j := 0) h0, rfl, _, rfl, ?_⟩
        cases st with
        | mark p m => exact iteF ⟨rfl, rfl⟩
        | cut p => exact iteF ⟨rfl, rfl⟩
        | put p n m => exact iteT ⟨_, rfl, a, sx, _, _, rfl, rfl, SqT.of ha5, atI_nat (j := 2) (hput p n m rfl).1, rfl, rfl⟩
      rintro σ' H' ⟨rfl, rfl⟩
      have none_if : (st.path.getLastD 0 < 0 ∨ st.many < 0 ∨ (bs.length : Int) < st.path.getLastD 0 + st.many) → st.beside ts = none := fun h => by
        unfold Stp.beside
        rw [if_neg hpe, hF, hd, Option.bind_some, if_pos h]
      -- if here < 0 or many < 0 or here + many > len(trees)
      refine ⟨_, rfl, _, _, rfl, rfl, _, rfl, ?_⟩
      refine ite2 (fun hlt => ?_) (fun hlt => ?_)
      · exact iteT (kn (none_if (.inl (of_decide_eq_true hlt))) _ x.h)
      have n1 : ¬ st.path.getLastD 0 < 0 := fun z => hlt (decide_eq_true z)
      refine ⟨_, rfl, _, _, rfl, rfl, _, rfl, ?_⟩
      refine ite2 (fun hlt2 => ?_) (fun hlt2 => ?_)
      · exact iteT (kn (none_if (.inr (.inl (of_decide_eq_true hlt2)))) _ x.h)
      have n2 : ¬ st.many < 0 := fun z => hlt2 (decide_eq_true z)
      refine ⟨_, rfl, _, rfl, _, _, rfl, rfl, _, rfl, ta, tvs, rfl, .inl (SqL.of hta5), _, _, rfl, rfl, _, rfl, ?_⟩
      refine ite2 (fun hgt => ?_) (fun hgt => ?_)
      · have hg := of_decide_eq_true hgt
        exact kn (none_if (.inr (.inr (by rw [← hbl]; exact hg)))) _ x.h
      have n3 : ¬ (tvs.length : Int) < st.path.getLastD 0 + st.many := fun z => hgt (decide_eq_true z)
      have hb : st.beside ts = some bs := by
        unfold Stp.beside
        rw [if_neg hpe, hF, hd, Option.bind_some, if_neg (by rw [← hbl]; omega)]
      obtain ⟨i, hi⟩ : ∃ i : Nat, st.path.getLastD 0 = (i : Int) := ⟨(st.path.getLastD 0).toNat, by omega⟩
      obtain ⟨n, hn⟩ : ∃ n : Nat, st.many = (n : Int) := ⟨st.many.toNat, by omega⟩
      have htk : Stp.taken st bs = (bs.drop i).take n := by unfold Stp.taken; rw [hi, hn]; rfl
      have htl : (Stp.taken st bs).length = n := by rw [htk, List.length_take, List.length_drop]; omega
      have hmid := mid_knots bs i n
      rw [← htk] at hmid
      have hins := instead_knots st (Stp.taken st bs)
      have hkil := length_le_knots (st.instead (Stp.taken st bs))
      have hin : (i : Int) + (n : Int) = ((i + n : Nat) : Int) := by omega
      rw [hi, hn]
      -- made = []
      refine ⟨Nat.zero_le _, fun pm hpm => ?_⟩
      have x6 := x.trans (Ext.tmp (o := .lst []) x.gh hpm)
      have hA6 := same_upd (o := .lst []) hpm _ _ hA
      -- what stands instead
      try dsimp only
      refine seq_gen fun R3 hn3 hr3 => ?_
      refine ⟨fun σ' H' => ∃ (G7 : Hp) (mv : V), σ' = [some (.ref ra), some (.ref a), some (.ref pa), some (.ref pA), some (.ref ta), z5, some (.int (i : Int)), some (.int (n : Int)), some mv, none] ∧ Ext G H G7 H' ∧ Same G5 G7 ∧ Rep G7 mv (rowD (st.instead (Stp.taken st bs))) ∧ G7 pA = none ∧ H' pA = some (.lst av), ?_, ?_⟩
      · have one : n = 1 → ∃ (t : Tr) (tr : V), bs[i]? = some t ∧ Stp.taken st bs = [t] ∧ atI tvs (i : Int) = some tr ∧ Rep G5 tr t.d := fun e => by
          subst e
          have hib : i < bs.length := by omega
          obtain ⟨tr, htr, rtr⟩ := rbs.get (i := i) (d := bs[i].d) (by rw [List.getElem?_map, List.getElem?_eq_getElem hib]; rfl)
          refine ⟨bs[i], tr, List.getElem?_eq_getElem hib, ?_, atI_nat htr, rtr⟩
          rw [htk, List.drop_eq_getElem_cons hib]
          rfl
        refine ⟨_, rfl, a, sx, _, _, rfl, rfl, SqT.of (x6.gh _ _ (x.g _ _ ha)), atI_nat (j := 0) h0, rfl, _, rfl, ?_⟩
        cases st with
        | put p nn m =>
          refine iteT ?_
          refine ⟨_, rfl, a, sx, _, _, rfl, rfl, SqT.of (x6.gh _ _ (x.g _ _ ha)), atI_nat (j := 3) (hput p nn m rfl).2, (by show 1 ≤ sizeLine; decide), fun p1 g1 => ?_⟩
          have x7 := x6.trans (Ext.tmp (o := .lst [V.str m]) x6.gh g1)
          refine ⟨_, rfl, _, rfl, _, rfl, _, rfl, _, rfl, _, _, rfl, rfl, _, rfl, ta, tvs, rfl, SqL.of (x7.gh _ _ hta), fun p2 g2 => ?_⟩
          rw [hin, cut_mid tvs i n (by omega)]
          have x8 := x7.trans (Ext.tmp (o := .lst ((tvs.drop i).take n)) x7.gh g2)
          refine ⟨p1, p2, _, _, rfl, rfl, same_upd g2 _ _ upd_same, upd_same, (by rw [List.length_take]; show 1 + _ ≤ sizeLine; omega), fun p3 g3 => ⟨p3, _, rfl, .inl ⟨SqL.of upd_same, fun p4 g4 => ?_⟩⟩⟩
          have x9 := x8.trans (Ext.tmp (o := .lst ([V.str m] ++ (tvs.drop i).take n)) x8.gh g3)
          have y10 := Ext.add (o := .tup ([V.str m] ++ (tvs.drop i).take n)) x9.gh g4
          have x10 := x9.trans y10
          refine ⟨by show 1 ≤ sizeLine; decide, fun p5 g5 => ?_⟩
          have y11 := Ext.add (o := .lst [.ref p4]) x10.gh g5
          have hA9 := same_upd (o := .lst ([V.str m] ++ (tvs.drop i).take n)) g3 _ _ (same_upd (o := .lst ((tvs.drop i).take n)) g2 _ _ (same_upd (o := .lst [V.str m]) g1 _ _ hA6))
          have hA10 := same_upd (o := .tup ([V.str m] ++ (tvs.drop i).take n)) g4 _ _ hA9
          refine ⟨_, .ref p5, rfl, x10.trans y11, y10.g.trans y11.g, .lst upd_same (.cons ?_ .nil), y11.keep hA10 (y10.keep hA9 nA), same_upd g5 _ _ hA10⟩
          rw [htk, tree_d]
          refine .tup (y11.g _ _ upd_same) (.cons (.str m) ?_)
          show Reps _ _ (((bs.drop i).take n).map Tr.d)
          rw [List.map_take, List.map_drop]
          exact ((rbs.drop i).take n).mono (y10.g.trans y11.g)
        | cut p =>
          refine fold_goal fun Zg hZg => ?_
          obtain ⟨t, tr, hbi, htt, hix, rtr⟩ := one (by have : (1 : Int) = (n : Int) := hn; omega)
          refine hZg ?_
          clear hZg Zg
          refine fold_goal fun Zg hZg => ?_
          obtain ⟨tra, kv, rfl, htra, rkv⟩ := rtr.tree
          refine hZg ?_
          clear hZg Zg
          refine iteF ⟨_, rfl, a, sx, _, _, rfl, rfl, SqT.of (x6.gh _ _ (x.g _ _ ha)), atI_nat (j := 0) h0, rfl, _, rfl, iteT ?_⟩
          refine ⟨_, rfl, _, rfl, ta, tvs, _, _, rfl, rfl, SqL.of (x6.gh _ _ hta), hix, _, rfl, tra, _, rfl, SqT.of (x6.gh _ _ htra), kids_not _ _, fun p1 g1 => ⟨p1, kv, rfl, .inr (SqT.of (by rw [upd_same, kids_cut])), fun p2 g2 => ?_⟩⟩
          have x7 := x6.trans (Ext.tmp (o := .tup (cutV (V.str t.mark :: kv) (some 1) none)) x6.gh g1)
          have y8 := Ext.add (o := .lst kv) x7.gh g2
          have hA7 := same_upd (o := .tup (cutV (V.str t.mark :: kv) (some 1) none)) g1 _ _ hA6
          refine ⟨_, .ref p2, rfl, x7.trans y8, y8.g, ?_, y8.keep hA7 nA, same_upd g2 _ _ hA7⟩
          rw [htt]
          exact .lst upd_same (rkv.mono y8.g)
        | mark p m =>
          refine fold_goal fun Zg hZg => ?_
          obtain ⟨t, tr, hbi, htt, hix, rtr⟩ := one (by have : (1 : Int) = (n : Int) := hn; omega)
          refine hZg ?_
          clear hZg Zg
          refine fold_goal fun Zg hZg => ?_
          obtain ⟨tra, kv, rfl, htra, rkv⟩ := rtr.tree
          refine hZg ?_
          clear hZg Zg
          have hkvl := rkv.length
          rw [List.length_map] at hkvl
          have hkk : knotsOf t.kids + 1 ≤ knotsOf bs := by
            have := knots_mem (List.mem_of_getElem? hbi)
            rw [knots_eq] at this
            omega
          have hkkl := length_le_knots t.kids
          refine iteF ⟨_, rfl, a, sx, _, _, rfl, rfl, SqT.of (x6.gh _ _ (x.g _ _ ha)), atI_nat (j := 0) h0, rfl, _, rfl, iteF ?_⟩
          refine ⟨_, rfl, a, sx, _, _, rfl, rfl, SqT.of (x6.gh _ _ (x.g _ _ ha)), atI_nat (j := 2) (hmrk p m rfl), (by show 1 ≤ sizeLine; decide), fun p1 g1 => ?_⟩
          have x7 := x6.trans (Ext.tmp (o := .lst [V.str m]) x6.gh g1)
          have hA7 := same_upd (o := .lst [V.str m]) g1 _ _ hA6
          refine ⟨_, rfl, _, rfl, ta, tvs, _, _, rfl, rfl, SqL.of (x7.gh _ _ hta), hix, _, rfl, tra, _, rfl, SqT.of (x7.gh _ _ htra), kids_not _ _, fun p2 g2 => ⟨p2, kv, rfl, .inr (SqT.of (by rw [upd_same, kids_cut])), fun p3 g3 => ?_⟩⟩
          have x8 := x7.trans (Ext.tmp (o := .tup (cutV (V.str t.mark :: kv) (some 1) none)) x7.gh g2)
          have hA8 := same_upd (o := .tup (cutV (V.str t.mark :: kv) (some 1) none)) g2 _ _ hA7
          have x9 := x8.trans (Ext.tmp (o := .lst kv) x8.gh g3)
          have hA9 := same_upd (o := .lst kv) g3 _ _ hA8
          refine ⟨p1, p3, _, _, rfl, rfl, same_upd g3 _ _ (same_upd g2 _ _ upd_same), upd_same, (by show 1 + kv.length ≤ sizeLine; omega), fun p4 g4 => ⟨p4, _, rfl, .inl ⟨SqL.of upd_same, fun p5 g5 => ?_⟩⟩⟩
          have x10 := x9.trans (Ext.tmp (o := .lst ([V.str m] ++ kv)) x9.gh g4)
          have hA10 := same_upd (o := .lst ([V.str m] ++ kv)) g4 _ _ hA9
          have y11 := Ext.add (o := .tup ([V.str m] ++ kv)) x10.gh g5
          have hA11 := same_upd (o := .tup ([V.str m] ++ kv)) g5 _ _ hA10
          have x11 := x10.trans y11
          refine ⟨by show 1 ≤ sizeLine; decide, fun p6 g6 => ?_⟩
          have y12 := Ext.add (o := .lst [.ref p5]) x11.gh g6
          refine ⟨_, .ref p6, rfl, x11.trans y12, y11.g.trans y12.g, ?_, y12.keep hA11 (y11.keep hA10 nA), same_upd g6 _ _ hA11⟩
          rw [htt]
          refine .lst upd_same (.cons ?_ .nil)
          rw [tree_d]
          exact .tup (y12.g _ _ upd_same) (.cons (.str m) (rkv.mono (y11.g.trans y12.g)))
      intro σ' H7 hZp
      refine fold_goal fun Zg hZg => ?_
      obtain ⟨G7, mv, rfl, x7, s7, rm, nA7, hA7⟩ := hZp
      refine hZg ?_
      clear hZg Zg
      refine hn3 _ _ ?_
      clear hn3 hr3 R3
      refine fold_goal fun Zg hZg => ?_
      obtain ⟨ma, mvs, rfl, hma, rms⟩ := rm.row
      refine hZg ?_
      clear hZg Zg
      have hml := rms.length
      rw [List.length_map] at hml
      have hta7 := s7 _ _ hta
      -- made = trees[:here] + made + trees[here + many:]
      try dsimp only
      refine seq_gen fun R4 hn4 hr4 => ?_
      refine ⟨_, rfl, _, rfl, _, rfl, ta, tvs, rfl, SqL.of (x7.gh _ _ hta7), fun p1 g1 => ?_⟩
      rw [cut_to]
      have x8 := x7.trans (Ext.tmp (o := .lst (tvs.take i)) x7.gh g1)
      have hA8 := same_upd (o := .lst (tvs.take i)) g1 _ _ hA7
      refine ⟨_, rfl, p1, ma, _, _, rfl, rfl, upd_same, x8.gh _ _ hma, (by rw [List.length_take]; omega), fun p2 g2 => ?_⟩
      have x9 := x8.trans (Ext.tmp (o := .lst (tvs.take i ++ mvs)) x8.gh g2)
      have hA9 := same_upd (o := .lst (tvs.take i ++ mvs)) g2 _ _ hA8
      refine ⟨_, rfl, _, rfl, _, rfl, _, _, rfl, rfl, _, rfl, ta, tvs, rfl, SqL.of (x9.gh _ _ hta7), fun p3 g3 => ?_⟩
      rw [hin, cut_from]
      have x10 := x9.trans (Ext.tmp (o := .lst (tvs.drop (i + n))) x9.gh g3)
      have hA10 := same_upd (o := .lst (tvs.drop (i + n))) g3 _ _ hA9
      refine ⟨p2, p3, _, _, rfl, rfl, same_upd g3 _ _ upd_same, upd_same, (by rw [List.length_append, List.length_take, List.length_drop]; omega), fun p4 g4 => ?_⟩
      have y11 := Ext.add (o := .lst (tvs.take i ++ mvs ++ tvs.drop (i + n))) x10.gh g4
      have x11 := x10.trans y11
      have hA11 := same_upd (o := .lst (tvs.take i ++ mvs ++ tvs.drop (i + n))) g4 _ _ hA10
      have nA11 := y11.keep hA10 nA7
      have rb11 := rbs.mono (s7.trans y11.g)
      generalize hX : bs.take i ++ st.instead (Stp.taken st bs) ++ bs.drop (i + n) = X at *
      have RC : Rep (upd G7 p4 (.lst (tvs.take i ++ mvs ++ tvs.drop (i + n)))) (.ref p4) (rowD X) := by
        refine .lst upd_same ?_
        rw [← hX, List.map_append, List.map_append, List.map_take, List.map_drop]
        exact ((rb11.take i).append (rms.mono y11.g)).append (rb11.drop (i + n))
      have hkX : knotsOf X ≤ 1000 := by
        rw [← hX, knotsOf_append, knotsOf_append]
        omega
      have hds : (down ts Fp).isSome = true := by rw [hd]; rfl
      have sA : Same G5 (upd G7 p4 (.lst (tvs.take i ++ mvs ++ tvs.drop (i + n)))) := s7.trans y11.g
      -- for beside, k in reversed(above)
      refine hn4 _ _ ?_
      clear hn4 hr4 R4
      try dsimp only
      refine seq_gen fun R5 hn5 hr5 => ?_
      refine ⟨_, rfl, pA, av, rfl, SqL.of hA11, for_revG (K := K) (a := pA) (xs := av)
        (fun j σ H2 => ∃ (G2 : Hp) (cv : V) (us : List Tr) (a5 a9 : Option V), σ = [some (.ref ra), some (.ref a), some (.ref pa), some (.ref pA), some (.ref ta), a5, some (.int (i : Int)), some (.int (n : Int)), some cv, a9] ∧ Ext G H G2 H2 ∧ Same G5 G2 ∧ G2 pA = none ∧ H2 pA = some (.lst av) ∧
          down ts (Fp.take (Fp.length - j)) = some us ∧ Rep G2 cv (rowD (setAt us (Fp.drop (Fp.length - j)) X)))
        ⟨_, .ref p4, bs, z5, none, rfl, x11, sA, nA11, hA11, ?_, ?_⟩ (fun j σ H2 _ hZq => by obtain ⟨G2, _, _, _, _, _, _, _, _, hA2, _⟩ := hZq; exact SqL.of hA2) ?_ ?_⟩
      · rw [Nat.sub_zero, List.take_length]
        exact hd
      · rw [Nat.sub_zero, List.drop_length, setAt]
        exact RC
      · intro j y σ H2 hy hj hZp R6 hn6 hr6
        refine fold_goal fun Zg hZg => ?_
        obtain ⟨G2, cv, us, a5, a9, rfl, x2, s2, nA2, hA2, hus, rc⟩ := hZp
        refine hZg ?_
        clear hZg Zg
        rw [hal] at hj hy
        generalize hdd : Fp.length - 1 - j = d at hy
        have hdl : d < Fp.length := by omega
        have hd1 : Fp.length - j = d + 1 := by omega
        have hd2 : Fp.length - (j + 1) = d := by omega
        rw [hd1] at hus rc
        refine fold_goal fun Zg hZg => ?_
        obtain ⟨ls, t, hls, hk0, ht, hk⟩ := down_at hds hdl
        refine hZg ?_
        clear hZg Zg
        obtain rfl : t.kids = us := Option.some.inj (hk.symm.trans hus)
        refine fold_goal fun Zg hZg => ?_
        obtain ⟨dd, hdD, rdd⟩ := rA.at hy
        refine hZg ?_
        clear hZg Zg
        have hab : dd = .tup [rowD ls, .int Fp[d]] := by
          have e : (absD ts Fp Fp.length)[d]? = some (abD ts Fp d) := by unfold absD; rw [List.getElem?_map, List.getElem?_range hdl]; rfl
          have e2 := Option.some.inj (hdD.symm.trans e)
          rw [e2]
          unfold abD
          rw [hls, List.getD_eq_getElem?_getD, List.getElem?_eq_getElem hdl]
          rfl
        subst hab
        refine fold_goal fun Zg hZg => ?_
        obtain ⟨q, lv, rfl, hq, rlv⟩ := pair_of rdd
        refine hZg ?_
        clear hZg Zg
        refine fold_goal fun Zg hZg => ?_
        obtain ⟨la, lvs', rfl, hla, rls⟩ := rlv.row
        refine hZg ?_
        clear hZg Zg
        obtain ⟨tr, htr, rtr⟩ := rls.get (i := (Fp[d]).toNat) (d := t.d) (by rw [List.getElem?_map, ht]; rfl)
        have hix : atI lvs' Fp[d] = some tr := by
          have := atI_nat htr
          rwa [Int.toNat_of_nonneg hk0] at this
        refine fold_goal fun Zg hZg => ?_
        obtain ⟨tra, kv, rfl, htra, _⟩ := rtr.tree
        refine hZg ?_
        clear hZg Zg
        have hll := rls.length
        rw [List.length_map] at hll
        have hkl := down_knots _ _ _ hls
        have hkk := length_le_knots ls
        obtain ⟨e, he⟩ : ∃ e : Nat, Fp[d] = (e : Int) := ⟨(Fp[d]).toNat, by omega⟩
        have het : (Fp[d]).toNat = e := by omega
        have hcut := setAt_cons (xs := X) (p := Fp.drop (d + 1)) ht
        rw [het] at hcut
        have hsk : knotsOf (setAt t.kids (Fp.drop (d + 1)) X) ≤ 3000 := by
          have e1 := down_append ts (Fp.take (d + 1)) (Fp.drop (d + 1))
          rw [List.take_append_drop, hus, hd] at e1
          have e2 := setAt_knots (Fp.drop (d + 1)) t.kids bs X e1.symm
          have e3 := down_knots _ _ _ hus
          omega
        have hcl := length_le_knots (setAt t.kids (Fp.drop (d + 1)) X)
        refine fold_goal fun Zg hZg => ?_
        obtain ⟨ca, cvs, rfl, hca, rcs⟩ := rc.row
        refine hZg ?_
        clear hZg Zg
        have hccl := rcs.length
        rw [List.length_map] at hccl
        have hla2 := s2 _ _ hla
        refine ⟨q, [.ref la, .int Fp[d]], rfl, SqT.of (x2.gh _ _ (s2 _ _ hq)), rfl, _, _, rfl, _, _, rfl, rfl, ?_⟩
        rw [he] at hix ⊢
        -- beside[:k]
        refine ⟨_, rfl, _, rfl, _, rfl, la, lvs', rfl, SqL.of (x2.gh _ _ hla2), fun q1 h1 => ?_⟩
        rw [cut_to]
        have x4 := x2.trans (Ext.tmp (o := .lst (lvs'.take e)) x2.gh h1)
        have hB4 := same_upd (o := .lst (lvs'.take e)) h1 _ _ hA2
        -- tuple([beside[k][0]] + made)
        refine ⟨_, rfl, _, rfl, la, lvs', _, _, rfl, rfl, SqL.of (x4.gh _ _ hla2), hix, tra, _, _, _, rfl, rfl, SqT.of (x4.gh _ _ (s2 _ _ htra)), atI_nat (j := 0) rfl, (by show 1 ≤ sizeLine; decide), fun q2 h2 => ?_⟩
        have x5 := x4.trans (Ext.tmp (o := .lst [V.str t.mark]) x4.gh h2)
        have hB5 := same_upd (o := .lst [V.str t.mark]) h2 _ _ hB4
        refine ⟨_, rfl, q2, ca, _, _, rfl, rfl, upd_same, x5.gh _ _ hca, (by show 1 + cvs.length ≤ sizeLine; omega), fun q3 h3 => ⟨q3, _, rfl, .inl ⟨SqL.of upd_same, fun q4 h4 => ?_⟩⟩⟩
        have x6' := x5.trans (Ext.tmp (o := .lst ([V.str t.mark] ++ cvs)) x5.gh h3)
        have hB6 := same_upd (o := .lst ([V.str t.mark] ++ cvs)) h3 _ _ hB5
        have y7 := Ext.add (o := .tup ([V.str t.mark] ++ cvs)) x6'.gh h4
        have x7' := x6'.trans y7
        have hB7 := same_upd (o := .tup ([V.str t.mark] ++ cvs)) h4 _ _ hB6
        have nB7 := y7.keep hB6 nA2
        refine ⟨by show 1 ≤ sizeLine; decide, fun q5 h5 => ?_⟩
        have x8' := x7'.trans (Ext.tmp (o := .lst [.ref q4]) x7'.gh h5)
        have hB8 := same_upd (o := .lst [.ref q4]) h5 _ _ hB7
        refine ⟨q1, q5, _, _, rfl, rfl, same_upd h5 _ _ (same_upd h4 _ _ (same_upd h3 _ _ (same_upd h2 _ _ upd_same))), upd_same, (by rw [List.length_take]; show _ + 1 ≤ sizeLine; omega), fun q6 h6 => ?_⟩
        have x9' := x8'.trans (Ext.tmp (o := .lst (lvs'.take e ++ [.ref q4])) x8'.gh h6)
        have hB9 := same_upd (o := .lst (lvs'.take e ++ [.ref q4])) h6 _ _ hB8
        have hla9 := x9'.gh _ _ (y7.g _ _ hla2)
        refine ⟨_, rfl, _, rfl, _, _, rfl, rfl, _, rfl, la, lvs', rfl, SqL.of hla9, fun q7 h7 => ?_⟩
        have hc1 : (e : Int) + 1 = ((e + 1 : Nat) : Int) := by omega
        rw [hc1, cut_from]
        have x10' := x9'.trans (Ext.tmp (o := .lst (lvs'.drop (e + 1))) x9'.gh h7)
        have hB10 := same_upd (o := .lst (lvs'.drop (e + 1))) h7 _ _ hB9
        refine ⟨q6, q7, _, _, rfl, rfl, same_upd h7 _ _ upd_same, upd_same, (by rw [List.length_append, List.length_take, List.length_drop]; show _ + 1 + _ ≤ sizeLine; omega), fun q8 h8 => ?_⟩
        have y11' := Ext.add (o := .lst (lvs'.take e ++ [.ref q4] ++ lvs'.drop (e + 1))) x10'.gh h8
        refine hn6 _ _ ⟨_, .ref q8, ls, _, _, rfl, x10'.trans y11', s2.trans (y7.g.trans y11'.g), y11'.keep hB10 nB7, same_upd h8 _ _ hB10, by rw [hd2]; exact hls, ?_⟩
        rw [hd2, List.drop_eq_getElem_cons hdl, hcut]
        refine .lst upd_same ?_
        rw [List.map_append, List.map_append, List.map_take, List.map_drop]
        have rl9 := rls.mono (s2.trans (y7.g.trans y11'.g))
        refine ((rl9.take e).append (.cons ?_ .nil)).append (rl9.drop (e + 1))
        rw [tree_d]
        exact .tup (y11'.g _ _ upd_same) (.cons (.str _) (rcs.mono (y7.g.trans y11'.g)))
      · intro σ H2 hZp
        refine fold_goal fun Zg hZg => ?_
        obtain ⟨G2, cv, us, a5, a9, rfl, x2, s2, nA2, hA2, hus, rc⟩ := hZp
        refine hZg ?_
        clear hZg Zg
        refine hn5 _ _ ?_
        clear hn5 hr5 R5
        rw [hal, Nat.sub_self, List.take_zero] at hus
        obtain rfl : ts = us := Option.some.inj hus
        rw [hal, Nat.sub_self, List.drop_zero] at rc
        refine ⟨_, rfl, kq bs hb _ _ _ x2 ?_⟩
        unfold Stp.row
        rw [hF, hi, hn]
        unfold Stp.taken at hX
        rw [hi, hn] at hX
        rw [show (i : Int).toNat = i from rfl, show (n : Int).toNat = n from rfl] at hX ⊢
        rw [hX]
        exact rc
end
end K3
namespace K3
open PySem L2 TT
section
variable {P : Program} {w : World} {K : PySem.W.Frag} {mg : Str → Option Value} {base : Heap}
/-! ### _law_is_row -/
noncomputable def spIsRow : Sp := fun vs H Q _ => ∃ (G : Hp) (v : V) (ts : List Tr), vs = [v] ∧ Same G H ∧ Rep G v (rowD ts) ∧ knotsOf ts ≤ 1000 ∧ ∀ H' : Hp, Same H H' → Q (.bl true) H'
theorem scIsRow : FnScope ["_law_found", "_law_todo", "_law_tree"] ["_law_found"] (defScope sIsRow) := ⟨rfl, rfl, rfl, by decide +kernel, rfl, by decide +kernel, by decide +kernel⟩
theorem ok_isrow {f : Addr} {fd : FuncData} (F : Fun K "_law_is_row" "_law_is_row" sIsRow f fd) (T : Txt mg) : FnOk P w K mg base CX0 5 f fd ["_law_found"] spIsRow := by
  refine F.ok scIsRow (fun vs H Q E h => ?_) (fun cdv A outer s H vs Q E hr h => ?_)
  · refine fold_goal fun Zg hZg => ?_
    obtain ⟨G, v, ts, rfl, _⟩ := h
    refine hZg ?_
    clear hZg Zg
    rfl
  · refine fold_goal fun Zg hZg => ?_
    obtain ⟨G, v, ts, rfl, sm, rv, hkt, k⟩ := h
    refine hZg ?_
    clear hZg Zg
    have nd := scIsRow.nd
    have hu := hr.units0
    have big := line_big
    refine ⟨_, (pss_cons (ps_if (pt_not (pt_val (pe_callB call_isi rfl T.isinstance bt_isinstance (pa_cons (pv 0) (pa_cons (pe_ty rfl T.list bt_list) pa_nil)))))
        (pss_one (ps_ret pe_bl))
        pss_nil)
      (pss_cons (ps_set (i := 1) nd rfl (Or.inl rfl) (pe_callTy call_list_of rfl T.list bt_list (pa_cons (pv 0) pa_nil)))
      (pss_cons (ps_while PassesOwn.never (pt_cmpR (op_neE hu) (pv 1) (pe_lst pa_nil) (nomark _))
        (pss_cons (ps_set (i := 2) nd rfl (Or.inl rfl) (pe_bm0 PySem.F.plainAttrs_list PySem.F.slot_list_pop PySem.F.type_list_pop mt_pop (pv 1)))
        (pss_cons (ps_if (PW.pt (pw_or (pt_not (pt_val (pe_callB call_isi rfl T.isinstance bt_isinstance (pa_cons (pv 2) (pa_cons (pe_ty rfl T.tuple bt_tuple) pa_nil))))) (pw_or (pt_cmpR op_eq (pe_callB call_len_seq rfl T.len bt_len (pa_cons (pv 2) pa_nil)) pe_int (nomark _)) (pw_or1 (pt_not (pt_val (pe_callB call_isi rfl T.isinstance bt_isinstance (pa_cons (pe_ix ix_tup (pv 2) pe_int (fun _ _ => rfl)) (pa_cons (pe_ty rfl T.str bt_str) pa_nil)))))))))
          (pss_one (ps_ret pe_bl))
          pss_nil)
        (pss_one (ps_set (i := 1) nd rfl (Or.inl rfl) (pe_op op_cat (pv 1) (pe_callTy call_list_of rfl T.list bt_list (pa_cons (pe_slice sl_tup (pv 2) (po_some pe_int) po_none) pa_nil))))))))
      (pss_one (ps_ret pe_bl))))), ?_⟩
    refine fold_goal fun Zg hZg => ?_
    obtain ⟨ra, rvs, rfl, hra, rts⟩ := rv.row
    refine hZg ?_
    clear hZg Zg
    refine ⟨_, rfl, _, _, _, _, rfl, .lst (sm _ _ hra), kit_list_list K, _, rfl, iteF ?_⟩
    refine ⟨_, rfl, ra, rvs, rfl, .inl (SqL.of (sm _ _ hra)), fun p0 hp0 => ?_⟩
    refine ⟨fun m σ H2 => ∃ (pt : Addr) (tv : List V) (us : List Tr) (z : Option V), σ = [some (.ref ra), some (.ref pt), z] ∧ Ext G H G H2 ∧ G pt = none ∧ H pt = none ∧ H2 pt = some (.lst tv) ∧ Reps G tv (us.map Tr.d) ∧ knotsOf us = m ∧ m ≤ 1000,
      ⟨_, p0, rvs, ts, none, rfl, Ext.tmp sm hp0, sm.none hp0, hp0, upd_same, rts, rfl, hkt⟩, ?_⟩
    intro m σ H2 hZp
    refine fold_goal fun Zg hZg => ?_
    obtain ⟨pt, tv, us, z, rfl, x, nG, nH, hpt, rus, rfl, hm⟩ := hZp
    refine hZg ?_
    clear hZg Zg
    refine ⟨_, rfl, Nat.zero_le _, fun pe hpe => ⟨pt, pe, tv, rfl, rfl, SqL.of (same_upd hpe _ _ hpt), SqL.of upd_same, _, rfl, ?_⟩⟩
    have x1 := x.trans (Ext.tmp (o := .lst []) x.gh hpe)
    have hpt1 := same_upd (o := .lst []) hpe _ _ hpt
    cases he : tv.isEmpty with
    | true => exact iteF (k _ x1.h)
    | false =>
      refine fold_goal fun Zg hZg => ?_
      obtain ⟨t0, y, rfl⟩ := last_of tv he
      refine hZg ?_
      clear hZg Zg
      have hul := rus.length
      rw [List.length_map, List.length_append, List.length_singleton] at hul
      obtain ⟨us0, t, rfl⟩ : ∃ us0 t, us = us0 ++ [t] := by
        cases hq : us.isEmpty with
        | true => rw [List.isEmpty_iff.mp hq] at hul; simp at hul
        | false => exact last_of us hq
      rw [List.map_append] at rus
      have hl0 : t0.length = us0.length := by rw [List.length_append, List.length_singleton] at hul; omega
      have r0 : Reps G t0 (us0.map Tr.d) := by
        have := rus.take t0.length
        rwa [List.take_left, show t0.length = (us0.map Tr.d).length by rw [List.length_map]; exact hl0, List.take_left] at this
      have rt : Rep G y t.d := by
        have := rus.drop t0.length
        rw [List.drop_left, show t0.length = (us0.map Tr.d).length by rw [List.length_map]; exact hl0, List.drop_left] at this
        cases this with
        | cons r _ => exact r
      refine fold_goal fun Zg hZg => ?_
      obtain ⟨tra, kv, rfl, htra, rkv⟩ := rt.tree
      refine hZg ?_
      clear hZg Zg
      have hkm : knotsOf (us0 ++ [t]) = knotsOf us0 + (1 + knotsOf t.kids) := by rw [knotsOf_append, knotsOf, knotsOf, knots_eq]; rfl
      have hkvl := rkv.length
      rw [List.length_map] at hkvl
      have l1 := length_le_knots us0
      have l2 := length_le_knots t.kids
      refine iteT ⟨fun σ' H' => ∃ m', m' < knotsOf (us0 ++ [t]) ∧ ∃ (pt : Addr) (tv : List V) (us : List Tr) (z : Option V), σ' = [some (.ref ra), some (.ref pt), z] ∧ Ext G H G H' ∧ G pt = none ∧ H pt = none ∧ H' pt = some (.lst tv) ∧ Reps G tv (us.map Tr.d) ∧ knotsOf us = m' ∧ m' ≤ 1000, fun _ _ z => z, ?_⟩
      -- tree = todo.pop()
      refine ⟨_, rfl, .inl ⟨rfl, _, SqL.of hpt1⟩, pt, _, _, rfl, rfl, hpt1, last_at t0 _, ?_⟩
      rw [List.dropLast_concat]
      have x2 := x1.mut (o := .lst t0) nG nH
      have ht2 := x2.gh _ _ htra
      refine ⟨_, rfl, _, _, _, _, rfl, .tup ht2, kit_tuple_tuple K, _, rfl, iteF ?_⟩
      refine ⟨_, rfl, tra, _, rfl, .inr (SqT.of ht2), rfl, _, rfl, ?_⟩
      refine ite2 (fun h => ?_) (fun _ => ?_)
      · exfalso
        have := of_decide_eq_true h
        injection this with this
        rw [List.length_cons] at this
        omega
      refine ⟨_, rfl, tra, _, _, _, rfl, rfl, SqT.of ht2, atI_nat (j := 0) rfl, _, _, _, _, rfl, .str _, kit_str_str K, _, rfl, iteF ?_⟩
      -- todo = todo + list(tree[1:])
      refine ⟨_, rfl, _, rfl, _, rfl, tra, _, rfl, SqT.of ht2, kids_not _ _, fun q1 h1 => ⟨q1, kv, rfl, .inr (SqT.of (by rw [upd_same, kids_cut])), fun q2 h2 => ?_⟩⟩
      have x3 := x2.trans (Ext.tmp (o := .tup (cutV (V.str t.mark :: kv) (some 1) none)) x2.gh h1)
      have x4 := x3.trans (Ext.tmp (o := .lst kv) x3.gh h2)
      refine ⟨pt, q2, _, _, rfl, rfl, same_upd h2 _ _ (same_upd h1 _ _ upd_same), upd_same, (by omega), fun q3 h3 => ?_⟩
      have x5 := x4.trans (Ext.tmp (o := .lst (t0 ++ kv)) x4.gh h3)
      refine ⟨_, ?_, q3, _, us0 ++ t.kids, _, rfl, x5, x4.gh.none h3, x4.h.none h3, upd_same, ?_, rfl, ?_⟩
      · rw [knotsOf_append]; omega
      · rw [List.map_append]
        exact r0.append rkv
      · rw [knotsOf_append]; omega
end
end K3
namespace K3
open PySem L2 TT
section
variable {P : Program} {w : World} {K : PySem.W.Frag} {mg : Str → Option Value} {base : Heap}
/-! ### _law_size -/
noncomputable def spSize : Sp := fun vs H Q _ => ∃ (G : Hp) (a : Addr) (xs : List V) (ts : List Tr), vs = [.ref a] ∧ Same G H ∧ (G a = some (.lst xs) ∨ G a = some (.tup xs)) ∧ Reps G xs (ts.map Tr.d) ∧ knotsOf ts ≤ 1000 ∧ ∀ H' : Hp, Same H H' → Q (.int (knotsOf ts : Int)) H'
theorem scSize : FnScope ["_law_trees", "_law_many", "_law_todo", "_law_tree"] ["_law_trees"] (defScope sSize) := ⟨rfl, rfl, rfl, by decide +kernel, rfl, by decide +kernel, by decide +kernel⟩
theorem ok_size {f : Addr} {fd : FuncData} (F : Fun K "_law_size" "_law_size" sSize f fd) (T : Txt mg) : FnOk P w K mg base CX0 5 f fd ["_law_trees"] spSize := by
  refine F.ok scSize (fun vs H Q E h => ?_) (fun cdv A outer s H vs Q E hr h => ?_)
  · refine fold_goal fun Zg hZg => ?_
    obtain ⟨G, a, xs, ts, rfl, _⟩ := h
    refine hZg ?_
    clear hZg Zg
    rfl
  · refine fold_goal fun Zg hZg => ?_
    obtain ⟨G, a, xs, ts, rfl, sm, ha, rts, hkt, k⟩ := h
    refine hZg ?_
    clear hZg Zg
    have nd := scSize.nd
    have hu := hr.units0
    have big := line_big
    refine ⟨_, (pss_cons (ps_set (i := 1) nd rfl (Or.inl rfl) pe_int)
      (pss_cons (ps_set (i := 2) nd rfl (Or.inl rfl) (pe_callTy call_list_of rfl T.list bt_list (pa_cons (pv 0) pa_nil)))
      (pss_cons (ps_while PassesOwn.never (pt_cmpR (op_neE hu) (pv 2) (pe_lst pa_nil) (nomark _))
        (pss_cons (ps_set (i := 3) nd rfl (Or.inl rfl) (pe_bm0 PySem.F.plainAttrs_list PySem.F.slot_list_pop PySem.F.type_list_pop mt_pop (pv 2)))
        (pss_cons (ps_set (i := 1) nd rfl (Or.inl rfl) (pe_op op_add (pv 1) pe_int))
        (pss_one (ps_set (i := 2) nd rfl (Or.inl rfl) (pe_op op_cat (pv 2) (pe_callTy call_list_of rfl T.list bt_list (pa_cons (pe_slice sl_tup (pv 3) (po_some pe_int) po_none) pa_nil))))))))
      (pss_one (ps_ret (pv 1)))))), ?_⟩
    refine ⟨_, rfl, a, xs, rfl, (ha.elim (fun z => .inl (SqL.of (sm _ _ z))) (fun z => .inr (SqT.of (sm _ _ z)))), fun p0 hp0 => ?_⟩
    refine ⟨fun m σ H2 => ∃ (pt : Addr) (tv : List V) (us : List Tr) (c : Nat) (z : Option V), σ = [some (.ref a), some (.int (c : Int)), some (.ref pt), z] ∧ Ext G H G H2 ∧ G pt = none ∧ H pt = none ∧ H2 pt = some (.lst tv) ∧ Reps G tv (us.map Tr.d) ∧ knotsOf us = m ∧ c + m = knotsOf ts,
      ⟨_, p0, xs, ts, 0, none, rfl, Ext.tmp sm hp0, sm.none hp0, hp0, upd_same, rts, rfl, by omega⟩, ?_⟩
    intro m σ H2 hZp
    refine fold_goal fun Zg hZg => ?_
    obtain ⟨pt, tv, us, c, z, rfl, x, nG, nH, hpt, rus, rfl, hm⟩ := hZp
    refine hZg ?_
    clear hZg Zg
    refine ⟨_, rfl, Nat.zero_le _, fun pe hpe => ⟨pt, pe, tv, rfl, rfl, SqL.of (same_upd hpe _ _ hpt), SqL.of upd_same, _, rfl, ?_⟩⟩
    have x1 := x.trans (Ext.tmp (o := .lst []) x.gh hpe)
    have hpt1 := same_upd (o := .lst []) hpe _ _ hpt
    cases he : tv.isEmpty with
    | true =>
      have e1 : tv = [] := List.isEmpty_iff.mp he
      subst e1
      have hul := rus.length
      rw [List.length_map] at hul
      have e2 : us = [] := List.length_eq_zero_iff.mp hul.symm
      subst e2
      have e3 : c = knotsOf ts := by
        rw [show knotsOf [] = 0 from rfl] at hm
        omega
      refine iteF ⟨_, rfl, ?_⟩
      rw [e3]
      exact k _ x1.h
    | false =>
      refine fold_goal fun Zg hZg => ?_
      obtain ⟨t0, y, rfl⟩ := last_of tv he
      refine hZg ?_
      clear hZg Zg
      have hul := rus.length
      rw [List.length_map, List.length_append, List.length_singleton] at hul
      obtain ⟨us0, t, rfl⟩ : ∃ us0 t, us = us0 ++ [t] := by
        cases hq : us.isEmpty with
        | true => rw [List.isEmpty_iff.mp hq] at hul; simp at hul
        | false => exact last_of us hq
      rw [List.map_append] at rus
      have hl0 : t0.length = us0.length := by rw [List.length_append, List.length_singleton] at hul; omega
      have r0 : Reps G t0 (us0.map Tr.d) := by
        have := rus.take t0.length
        rwa [List.take_left, show t0.length = (us0.map Tr.d).length by rw [List.length_map]; exact hl0, List.take_left] at this
      have rt : Rep G y t.d := by
        have := rus.drop t0.length
        rw [List.drop_left, show t0.length = (us0.map Tr.d).length by rw [List.length_map]; exact hl0, List.drop_left] at this
        cases this with
        | cons r _ => exact r
      refine fold_goal fun Zg hZg => ?_
      obtain ⟨tra, kv, rfl, htra, rkv⟩ := rt.tree
      refine hZg ?_
      clear hZg Zg
      have hkm : knotsOf (us0 ++ [t]) = knotsOf us0 + (1 + knotsOf t.kids) := by rw [knotsOf_append, knotsOf, knotsOf, knots_eq]; rfl
      have hkvl := rkv.length
      rw [List.length_map] at hkvl
      have l1 := length_le_knots us0
      have l2 := length_le_knots t.kids
      refine iteT ⟨fun σ' H' => ∃ m', m' < knotsOf (us0 ++ [t]) ∧ ∃ (pt : Addr) (tv : List V) (us : List Tr) (c : Nat) (z : Option V), σ' = [some (.ref a), some (.int (c : Int)), some (.ref pt), z] ∧ Ext G H G H' ∧ G pt = none ∧ H pt = none ∧ H' pt = some (.lst tv) ∧ Reps G tv (us.map Tr.d) ∧ knotsOf us = m' ∧ c + m' = knotsOf ts, fun _ _ z => z, ?_⟩
      refine ⟨_, rfl, .inl ⟨rfl, _, SqL.of hpt1⟩, pt, _, _, rfl, rfl, hpt1, last_at t0 _, ?_⟩
      rw [List.dropLast_concat]
      have x2 := x1.mut (o := .lst t0) nG nH
      have ht2 := x2.gh _ _ htra
      refine ⟨_, rfl, _, _, rfl, rfl, ?_⟩
      refine ⟨_, rfl, _, rfl, _, rfl, tra, _, rfl, SqT.of ht2, kids_not _ _, fun q1 h1 => ⟨q1, kv, rfl, .inr (SqT.of (by rw [upd_same, kids_cut])), fun q2 h2 => ?_⟩⟩
      have x3 := x2.trans (Ext.tmp (o := .tup (cutV (V.str t.mark :: kv) (some 1) none)) x2.gh h1)
      have x4 := x3.trans (Ext.tmp (o := .lst kv) x3.gh h2)
      refine ⟨pt, q2, _, _, rfl, rfl, same_upd h2 _ _ (same_upd h1 _ _ upd_same), upd_same, (by omega), fun q3 h3 => ?_⟩
      have x5 := x4.trans (Ext.tmp (o := .lst (t0 ++ kv)) x4.gh h3)
      have ec : (c : Int) + 1 = ((c + 1 : Nat) : Int) := by omega
      refine ⟨_, ?_, q3, _, us0 ++ t.kids, c + 1, _, rfl, x5, x4.gh.none h3, x4.h.none h3, upd_same, ?_, rfl, ?_⟩
      · rw [knotsOf_append]; omega
      · rw [List.map_append]
        exact r0.append rkv
      · rw [knotsOf_append]; omega
/-! ### _law_walked -/
noncomputable def spWalked : Sp := fun vs H Q _ => ∃ (G : Hp) (v u : V) (ts : List Tr) (sts : List Stp), vs = [v, u] ∧ Same G H ∧ Rep G v (rowD ts) ∧ Rep G u (.lst (sts.map Stp.d)) ∧ (∀ st ∈ sts, st.Fit) ∧ knotsOf ts + sts.length ≤ 800 ∧
  (runS sts ts).isSome = true ∧ ∀ cs, runS sts ts = some cs → ∀ (G' H' : Hp) (r : V), Ext G H G' H' → Rep G' r (rowD cs) → Q r H'
theorem scWalked : FnScope ["_law_row", "_law_steps", "_law_step"] ["_law_row", "_law_steps"] (defScope sWalked) := ⟨rfl, rfl, rfl, by decide +kernel, rfl, by decide +kernel, by decide +kernel⟩
theorem ok_walked {f : Addr} {fd : FuncData} (F : Fun K "_law_walked" "_law_walked" sWalked f fd) (F_stepped : Ok1 P w K mg base 5 "_law_stepped" ["_law_row", "_law_step"] spStepped) : FnOk P w K mg base CX0 7 f fd ["_law_row", "_law_steps"] spWalked := by
  refine F.ok scWalked (fun vs H Q E h => ?_) (fun cdv A outer s H vs Q E hr h => ?_)
  · refine fold_goal fun Zg hZg => ?_
    obtain ⟨G, v, u, ts, sts, rfl, _⟩ := h
    refine hZg ?_
    clear hZg Zg
    rfl
  · refine fold_goal fun Zg hZg => ?_
    obtain ⟨G, v, u, ts, sts, rfl, sm, rv, ru, hfit, hkt, hsome, kq⟩ := h
    refine hZg ?_
    clear hZg Zg
    have nd := scWalked.nd
    refine ⟨_, (pss_cons (ps_for PassesOwn.never rfl (pi_list (pv 1)) (pg_name (i := 2) nd rfl (Or.inl rfl))
        (pss_one (ps_if (pt_cmp (pc_notN (pv 0)))
          (pss_one (ps_set (i := 0) nd rfl (Or.inl rfl) (pe_fn F_stepped (hr.mono (by decide)) rfl (pa_cons (pv 0) (pa_cons (pv 2) pa_nil)))))
          pss_nil)))
      (pss_one (ps_ret (pv 0)))), ?_⟩
    cases ru with
    | @lst ua us _ hua rus =>
    have hul := rus.length
    rw [List.length_map] at hul
    refine ⟨_, rfl, ua, rfl, ⟨_, SqL.of (sm _ _ hua)⟩, for_list (K := K) (a := ua) (xs := us)
      (fun i σ H2 => ∃ (G2 : Hp) (cv : V) (z : Option V), σ = [some cv, some (.ref ua), z] ∧ Ext G H G2 H2 ∧ ((runS (sts.take i) ts = none ∧ cv = .non) ∨ ∃ cs, runS (sts.take i) ts = some cs ∧ Rep G2 cv (rowD cs) ∧ knotsOf cs ≤ knotsOf ts + i))
      ⟨G, v, none, rfl, Ext.refl sm, .inr ⟨ts, rfl, rv, Nat.le_refl _⟩⟩ (fun i σ H2 _ hZq => by obtain ⟨G2, _, _, _, x, _⟩ := hZq; exact SqL.of (x.h _ _ (sm _ _ hua))) ?_ ?_⟩
    · intro i y σ H2 hi hZp
      refine fold_goal fun Zg hZg => ?_
      obtain ⟨G2, cv, z, rfl, x, hc⟩ := hZp
      refine hZg ?_
      clear hZg Zg
      have hil : i < us.length := (List.getElem?_eq_some_iff.mp hi).1
      have his : i < sts.length := by omega
      refine fold_goal fun Zg hZg => ?_
      obtain ⟨d, hd, rd⟩ := rus.at hi
      refine hZg ?_
      clear hZg Zg
      rw [List.getElem?_map, List.getElem?_eq_getElem his] at hd
      cases hd
      have hst : sts[i] ∈ sts := List.getElem_mem his
      have htk : sts.take (i + 1) = sts.take i ++ [sts[i]] := List.take_succ_eq_append_getElem his
      rcases hc with ⟨hn, rfl⟩ | ⟨cs, hrun, rc, hkc⟩
      · refine ⟨_, rfl, _, rfl, iteF ⟨G2, .non, _, rfl, x, .inl ⟨?_, rfl⟩⟩⟩
        rw [htk, runS_app, hn]
        rfl
      · refine fold_goal fun Zg hZg => ?_
        obtain ⟨ca, cvs, rfl, hca, rcs⟩ := rc.row
        refine hZg ?_
        clear hZg Zg
        refine ⟨_, rfl, _, rfl, iteT ?_⟩
        refine ⟨_, rfl, _, rfl, G2, _, y, cs, sts[i], rfl, x.gh, rc, rd.mono x.g, hfit _ hst, by omega, fun bs hb G3 H3 r3 x3 rr3 => ?_, fun hb H' s' => ?_⟩
        · refine ⟨G3, r3, _, rfl, x.trans x3, .inr ⟨_, ?_, rr3, ?_⟩⟩
          · rw [htk, runS_app, hrun, Option.bind_some, runS, hb]
            rfl
          · have := row_knots hb
            omega
        · refine ⟨G2, .non, _, rfl, ⟨x.g, x.gh.trans s', x.h.trans s', x.new⟩, .inl ⟨?_, rfl⟩⟩
          rw [htk, runS_app, hrun, Option.bind_some, runS, hb]
    · intro σ H2 hZp
      refine fold_goal fun Zg hZg => ?_
      obtain ⟨G2, cv, z, rfl, x, hc⟩ := hZp
      refine hZg ?_
      clear hZg Zg
      rw [hul, List.take_length] at hc
      rcases hc with ⟨hn, rfl⟩ | ⟨cs, hrun, rc, hkc⟩
      · rw [hn] at hsome
        cases hsome
      · exact ⟨_, rfl, kq cs hrun _ _ _ x rc⟩
/-! ### _law_is_path -/
noncomputable def spIsPath : Sp := fun vs H Q _ => ∃ (G : Hp) (v : V) (p : List Int), vs = [v] ∧ Same G H ∧ Rep G v (pathD p) ∧ Q (.bl true) H
theorem scIsPath : FnScope ["_law_found", "_law_k"] ["_law_found"] (defScope sIsPath) := ⟨rfl, rfl, rfl, by decide +kernel, rfl, by decide +kernel, by decide +kernel⟩
theorem ok_ispath {f : Addr} {fd : FuncData} (F : Fun K "_law_is_path" "_law_is_path" sIsPath f fd) (T : Txt mg) : FnOk P w K mg base CX0 3 f fd ["_law_found"] spIsPath := by
  refine F.ok scIsPath (fun vs H Q E h => ?_) (fun cdv A outer s H vs Q E hr h => ?_)
  · refine fold_goal fun Zg hZg => ?_
    obtain ⟨G, v, p, rfl, _⟩ := h
    refine hZg ?_
    clear hZg Zg
    rfl
  · refine fold_goal fun Zg hZg => ?_
    obtain ⟨G, v, p, rfl, sm, rv, k⟩ := h
    refine hZg ?_
    clear hZg Zg
    have nd := scIsPath.nd
    refine ⟨_, (pss_cons (ps_if (pt_not (pt_val (pe_callB call_isi rfl T.isinstance bt_isinstance (pa_cons (pv 0) (pa_cons (pe_ty rfl T.list bt_list) pa_nil)))))
        (pss_one (ps_ret pe_bl))
        pss_nil)
      (pss_cons (ps_for PassesOwn.never rfl (pi_list (pv 0)) (pg_name (i := 1) nd rfl (Or.inl rfl))
        (pss_one (ps_if (PW.pt (pw_or (pt_not (pt_val (pe_callB call_isi rfl T.isinstance bt_isinstance (pa_cons (pv 1) (pa_cons (pe_ty rfl T.int bt_int) pa_nil))))) (pw_or1 (pt_val (pe_callB call_isi rfl T.isinstance bt_isinstance (pa_cons (pv 1) (pa_cons (pe_ty rfl T.bool bt_bool) pa_nil)))))))
          (pss_one (ps_ret pe_bl))
          pss_nil)))
      (pss_one (ps_ret pe_bl)))), ?_⟩
    refine fold_goal fun Zg hZg => ?_
    obtain ⟨pa, rfl, hpa⟩ := rv.path
    refine hZg ?_
    clear hZg Zg
    refine ⟨_, rfl, _, _, _, _, rfl, .lst (sm _ _ hpa), kit_list_list K, _, rfl, iteF ?_⟩
    refine ⟨_, rfl, pa, rfl, ⟨_, SqL.of (sm _ _ hpa)⟩, for_list (K := K) (a := pa) (xs := p.map V.int) (fun i σ H2 => ∃ z : Option V, σ = [some (.ref pa), z] ∧ H2 = H) ⟨none, rfl, rfl⟩ (fun i σ H2 _ ⟨_, _, e⟩ => by rw [e]; exact SqL.of (sm _ _ hpa)) ?_ ?_⟩
    · intro i y σ H2 hi hZp
      refine fold_goal fun Zg hZg => ?_
      obtain ⟨z, rfl, rfl⟩ := hZp
      refine hZg ?_
      clear hZg Zg
      have hil : i < p.length := by
        have := (List.getElem?_eq_some_iff.mp hi).1
        rwa [List.length_map] at this
      obtain rfl : V.int p[i] = y := by
        rw [List.getElem?_map, List.getElem?_eq_getElem hil] at hi
        exact Option.some.inj hi
      refine ⟨_, rfl, _, _, _, _, rfl, .int _, kit_int_int K, _, rfl, iteF ?_⟩
      exact ⟨_, rfl, _, _, _, _, rfl, .int _, kit_int_bool K, _, rfl, iteF ⟨_, rfl, rfl⟩⟩
    · intro σ H2 hZp
      refine fold_goal fun Zg hZg => ?_
      obtain ⟨z, rfl, rfl⟩ := hZp
      refine hZg ?_
      clear hZg Zg
      exact k
end
end K3
namespace K3
open PySem L2 TT
section
variable {P : Program} {w : World} {K : PySem.W.Frag} {mg : Str → Option Value} {base : Heap}
/-! ### _law_wandered -/
noncomputable def spWandered : Sp := fun vs H Q _ => ∃ (G : Hp) (v : V) (ca : Addr) (ts : List Tr) (ns : List Int), vs = [v, .ref ca] ∧ Same G H ∧ Rep G v (rowD ts) ∧ G ca = some (.lst (ns.map V.int)) ∧ ns.length ≤ 20 ∧ knotsOf ts ≤ 30 ∧
  ∀ (G' H' : Hp) (r : V) (cs : List Tr) (sts : List Stp), Ext G H G' H' → Rep G' r (.tup [rowD cs, .lst (sts.map Stp.d)]) → runS sts ts = some cs → (∀ st ∈ sts, st.Fit) → sts.length ≤ ns.length → knotsOf cs ≤ 50 → Q r H'
theorem scWandered : FnScope ["_law_row", "_law_cells", "_law_steps", "_law_j", "_law_cell", "_law_every", "_law_rest", "_law_mark", "_law_path", "_law_step", "_law_made"] ["_law_row", "_law_cells"] (defScope sWandered) := ⟨rfl, rfl, rfl, by decide +kernel, rfl, by decide +kernel, by decide +kernel⟩
theorem small_le {n : Nat} (h : n ≤ 1000000) : Small (n : Int) := by
  unfold Small
  have : (1000000 : Nat) < 10 ^ 100 := by decide
  omega
theorem ok_wandered {f : Addr} {fd : FuncData} (F : Fun K "_law_wandered" "_law_wandered" sWandered f fd) (T : Txt mg) (F_all : Ok1 P w K mg base 7 "_law_all_paths" ["_law_row"] spAll) (F_word : Ok1 P w K mg base 3 "_law_any_word" ["_law_cell"] spWord)
    (F_stepped : Ok1 P w K mg base 5 "_law_stepped" ["_law_row", "_law_step"] spStepped) (F_size : Ok1 P w K mg base 5 "_law_size" ["_law_trees"] spSize) : FnOk P w K mg base CX0 9 f fd ["_law_row", "_law_cells"] spWandered := by
  refine F.ok scWandered (fun vs H Q E h => ?_) (fun cdv A outer s H vs Q E hr h => ?_)
  · refine fold_goal fun Zg hZg => ?_
    obtain ⟨G, v, ca, ts, ns, rfl, _⟩ := h
    refine hZg ?_
    clear hZg Zg
    rfl
  · refine fold_goal fun Zg hZg => ?_
    obtain ⟨G, v, ca, ts, ns, rfl, sm, rv, hca, hns, hkt, kq⟩ := h
    refine hZg ?_
    clear hZg Zg
    have nd := scWandered.nd
    have hu := hr.units0
    have big := line_big
    have hcl : (ns.map V.int).length = ns.length := List.length_map ..
    refine ⟨_, (pss_cons (ps_set (i := 2) nd rfl (Or.inl rfl) (pe_lst pa_nil))
      (pss_cons (ps_for PassesOwn.never rfl (pi_range1 rfl T.range (pa_cons (pe_callB call_len_seq rfl T.len bt_len (pa_cons (pv 1) pa_nil)) pa_nil)) (pg_name (i := 3) nd rfl (Or.inl rfl))
        (pss_cons (ps_set (i := 4) nd rfl (Or.inl rfl) (pe_ix ix_list (pv 1) (pv 3) (fun _ _ => rfl)))
        (pss_cons (ps_set (i := 5) nd rfl (Or.inl rfl) (pe_fn F_all (hr.mono (by decide)) rfl (pa_cons (pv 0) pa_nil)))
        (pss_cons (ps_set (i := 6) nd rfl (Or.inl rfl) (pe_op op_fdiv (pv 4) pe_int))
        (pss_cons (ps_set (i := 7) nd rfl (Or.inl rfl) (pe_ix ix_list (pe_lst (pa_cons pe_str (pa_cons pe_str (pa_cons pe_str (pa_cons pe_str pa_nil))))) (pe_op op_mod (pe_op op_fdiv (pe_ix ix_list (pv 1) (pe_op op_mod (pe_op op_add (pv 3) pe_int) (pe_callB call_len_seq rfl T.len bt_len (pa_cons (pv 1) pa_nil))) (fun _ _ => rfl)) pe_int) pe_int) (fun _ _ => rfl)))
        (pss_cons (ps_mid (ps_if (pt_cmpR op_eq (pe_op op_mod (pv 4) pe_int) pe_int (nomark _))
          (pss_one (ps_set (i := 7) nd rfl (Or.inl rfl) (pe_fn F_word (hr.mono (by decide)) rfl (pa_cons (pe_op op_fdiv (pv 4) pe_int) pa_nil))))
          pss_nil))
        (pss_cons (ps_set (i := 8) nd rfl (Or.inl rfl) (pe_lst (pa_cons (pe_op op_mod (pv 6) (pe_op op_add (pe_callB call_len_seq rfl T.len bt_len (pa_cons (pv 0) pa_nil)) pe_int)) pa_nil)))
        (pss_cons (ps_mid (ps_if (pt_cmpR (op_neE hu) (pv 5) (pe_lst pa_nil) (nomark _))
          (pss_one (ps_set (i := 8) nd rfl (Or.inl rfl) (pe_ix ix_list (pv 5) (pe_op op_mod (pv 6) (pe_callB call_len_seq rfl T.len bt_len (pa_cons (pv 5) pa_nil))) (fun _ _ => rfl))))
          pss_nil))
        (pss_cons (ps_set (i := 9) nd rfl (Or.inl rfl) (pe_tup (pa_cons pe_str (pa_cons (pv 8) (pa_cons (pe_ix ix_list (pe_lst (pa_cons pe_int (pa_cons pe_int (pa_cons pe_int (pa_cons pe_int pa_nil))))) (pe_op op_mod (pe_op op_fdiv (pv 6) pe_int) pe_int) (fun _ _ => rfl)) (pa_cons (pv 7) pa_nil))))))
        (pss_cons (ps_mid (ps_if (PW.pt (pw_and (pt_cmpR (op_neE hu) (pv 5) (pe_lst pa_nil) (nomark _)) (pw_and1 (pt_cmpR op_eq (pe_op op_mod (pv 4) pe_int) pe_int (nomark _)))))
          (pss_one (ps_set (i := 9) nd rfl (Or.inl rfl) (pe_tup (pa_cons pe_str (pa_cons (pv 8) pa_nil)))))
          pss_nil))
        (pss_cons (ps_mid (ps_if (PW.pt (pw_and (pt_cmpR (op_neE hu) (pv 5) (pe_lst pa_nil) (nomark _)) (pw_and1 (pt_cmpR op_eq (pe_op op_mod (pv 4) pe_int) pe_int (nomark _)))))
          (pss_one (ps_set (i := 9) nd rfl (Or.inl rfl) (pe_tup (pa_cons pe_str (pa_cons (pv 8) (pa_cons (pv 7) pa_nil))))))
          pss_nil))
        (pss_cons (ps_mid (ps_set (i := 10) nd rfl (Or.inl rfl) (pe_fn F_stepped (hr.mono (by decide)) rfl (pa_cons (pv 0) (pa_cons (pv 9) pa_nil)))))
        (pss_one (ps_if (PW.pt (pw_and (pt_cmp (pc_notN (pv 10))) (pw_and1 (pt_cmpR op_lt (pe_fn F_size (hr.mono (by decide)) rfl (pa_cons (pv 10) pa_nil)) pe_int (nomark _)))))
          (pss_cons (ps_expr (pe_bm PySem.F.plainAttrs_list PySem.F.slot_list_append PySem.F.type_list_append mt_append (pv 2) (pa_cons (pv 9) pa_nil)))
          (pss_one (ps_set (i := 0) nd rfl (Or.inl rfl) (pv 10))))
          pss_nil))))))))))))))
      (pss_one (ps_ret (pe_tup (pa_cons (pv 0) (pa_cons (pv 2) pa_nil))))))), ?_⟩
    refine ⟨Nat.zero_le _, fun ps hps => ?_⟩
    have x0 : Ext G H G (upd H ps (.lst [])) := Ext.tmp sm hps
    refine ⟨_, rfl, ca, _, rfl, .inl (SqL.of (x0.gh _ _ hca)), _, rfl, by rw [hcl]; omega, by rw [hcl]; omega, for_rangeG
      (fun i σ H2 => ∃ (G2 : Hp) (rv : V) (cs : List Tr) (sv : List V) (sts : List Stp) (z3 z4 z5 z6 z7 z8 z9 z10 : Option V), σ = [some rv, some (.ref ca), some (.ref ps), z3, z4, z5, z6, z7, z8, z9, z10] ∧ Ext G H G2 H2 ∧ Rep G2 rv (rowD cs) ∧ G2 ps = none ∧ H2 ps = some (.lst sv) ∧ Reps G2 sv (sts.map Stp.d) ∧
        runS sts ts = some cs ∧ (∀ st ∈ sts, st.Fit) ∧ sts.length ≤ i ∧ knotsOf cs ≤ 30 + i ∧ i ≤ ns.length)
      ⟨G, v, ts, [], [], none, none, none, none, none, none, none, none, rfl, x0, rv, sm.none hps, upd_same, .nil, rfl, (fun _ z => nomatch z), Nat.le_refl _, by omega, Nat.zero_le _⟩ ?_ ?_⟩
    · intro i σ H2 hi hZp R0 hn0 hr0
      refine fold_goal fun Zg hZg => ?_
      obtain ⟨G2, rv, cs, sv, sts, z3, z4, z5, z6, z7, z8, z9, z10, rfl, x, rr, ns2, hs2, rs, hrun, hfit, hsl, hkc, _⟩ := hZp
      refine hZg ?_
      clear hZg Zg
      have hin : i < ns.length := by rw [hcl] at hi; simpa using hi
      have hcell : atI (ns.map V.int) (0 + (i : Int)) = some (.int ns[i]) := by rw [Int.zero_add]; exact ints_ix hin
      have hca2 := x.h _ _ (sm _ _ hca)
      refine fold_goal fun Zg hZg => ?_
      obtain ⟨ra, rvs, rfl, hra, rts⟩ := rr.row
      refine hZg ?_
      clear hZg Zg
      have hrl := rts.length
      rw [List.length_map] at hrl
      have hrk := length_le_knots cs
      -- cell, every, rest
      refine ⟨_, rfl, _, rfl, ca, _, _, _, rfl, rfl, SqL.of hca2, hcell, ?_⟩
      refine ⟨_, rfl, G2, _, cs, rfl, x.gh, rr, by omega, fun G3 H3 re ps3 x3 rre hperm hri => ?_⟩
      cases rre with
      | @lst ea evs _ hea revs =>
      have x4 := x.trans x3
      have hs3 := x3.h _ _ hs2
      have ns3 := x3.keep hs2 ns2
      refine ⟨_, rfl, _, _, rfl, rfl, ⟨by decide, by decide⟩, ?_⟩
      -- mark
      try dsimp only
      refine seq_gen fun Ra hna hra => ?_
      have hpos : (0 : Int) < ((ns.map V.int).length : Int) := by rw [hcl]; omega
      have hm1 : 0 ≤ (0 + (i : Int) + 1) % ((ns.map V.int).length : Int) := Int.emod_nonneg _ (by omega)
      have hm2 : (0 + (i : Int) + 1) % ((ns.map V.int).length : Int) < ((ns.map V.int).length : Int) := Int.emod_lt_of_pos _ hpos
      obtain ⟨nx, hnx⟩ := ints_ixI (ns := ns) hm1 (by rw [hcl] at hm2 ⊢; exact hm2)
      refine fold_goal fun Zg hZg => ?_
      obtain ⟨m0, hm0, _⟩ := four_words (nx / 5)
      refine hZg ?_
      clear hZg Zg
      refine ⟨by show 4 ≤ sizeLine; decide, fun p1 h1 => ?_⟩
      have x5 := x4.trans (Ext.tmp (o := .lst [V.str (Str.ofString "sab"), V.str (Str.ofString "tab"), V.str (Str.ofString "sob"), V.str (Str.ofString "sat")]) x4.gh h1)
      have hca5 := x5.h _ _ (sm _ _ hca)
      have hs5 := same_upd (o := .lst [V.str (Str.ofString "sab"), V.str (Str.ofString "tab"), V.str (Str.ofString "sob"), V.str (Str.ofString "sat")]) h1 _ _ hs3
      refine ⟨_, rfl, _, rfl, _, _, rfl, rfl, _, rfl, ca, _, rfl, .inl (SqL.of hca5), _, _, rfl, rfl, hpos, ca, _, _, _, rfl, rfl, SqL.of hca5, hnx, _, _, rfl, rfl, ⟨by decide, by decide⟩, _, _, rfl, rfl, (by show (0 : Int) < 4; decide), p1, _, _, _, rfl, rfl, SqL.of upd_same, hm0, ?_⟩
      -- if cell % 11 == 8
      refine hna _ _ ?_
      clear hna hra Ra
      try dsimp only
      refine seq_gen fun Rb hnb hrb => ?_
      refine ⟨fun σ' H' => ∃ m : Str, σ' = [some (.ref ra), some (.ref ca), some (.ref ps), some (.int (0 + (i : Int))), some (.int ns[i]), some (.ref ea), some (.int (ns[i] / 3)), some (.str m), z8, z9, z10] ∧ Ext G H G3 H' ∧ H' ps = some (.lst sv), ?_, ?_⟩
      · refine ⟨_, rfl, _, _, rfl, rfl, (by show (0 : Int) < 11; decide), rfl, _, rfl, ?_⟩
        refine ite2 (fun _ => ?_) (fun _ => ⟨m0, rfl, x5, hs5⟩)
        refine ⟨_, rfl, _, _, rfl, rfl, ⟨by decide, by decide⟩, _, rfl, fun H4 y s4 _ => ?_⟩
        exact ⟨y, rfl, ⟨x5.g, x5.gh.trans s4, x5.h.trans s4, x5.new⟩, s4 _ _ hs5⟩
      intro σ' H6 hZp
      refine fold_goal fun Zg hZg => ?_
      obtain ⟨m, rfl, x6, hs6⟩ := hZp
      refine hZg ?_
      clear hZg Zg
      refine hnb _ _ ?_
      clear hnb hrb Rb
      try dsimp only
      refine seq_gen fun Rc hnc hrc => ?_
      clear x5 hs5 hca5
      -- path = [rest % (len(row) + 1)]
      have hra6 := x6.gh _ _ (x3.g _ _ hra)
      have hp2 : (0 : Int) < (rvs.length : Int) + 1 := by omega
      have c1 : 0 ≤ ns[i] / 3 % ((rvs.length : Int) + 1) := Int.emod_nonneg _ (by omega)
      have c2 : ns[i] / 3 % ((rvs.length : Int) + 1) < (rvs.length : Int) + 1 := Int.emod_lt_of_pos _ hp2
      refine ⟨_, rfl, _, rfl, ra, rvs, rfl, .inl (SqL.of hra6), _, _, rfl, rfl, _, _, rfl, rfl, hp2, (by show 1 ≤ sizeLine; decide), fun q1 g1 => ?_⟩
      have y7 := Ext.add (o := .lst [V.int (ns[i] / 3 % ((rvs.length : Int) + 1))]) x6.gh g1
      have x7 := x6.trans y7
      have hs7 := y7.h _ _ hs6
      have ns7 := y7.keep hs6 ns3
      have hea7 := x7.gh _ _ (y7.g _ _ hea)
      have hevl := revs.length
      rw [List.length_map] at hevl
      have hpl := hperm.length_eq
      rw [pps_length] at hpl
      have hsm0 : Small (ns[i] / 3 % ((rvs.length : Int) + 1)) := by
        obtain ⟨e, he⟩ : ∃ e : Nat, ns[i] / 3 % ((rvs.length : Int) + 1) = (e : Int) := ⟨(ns[i] / 3 % ((rvs.length : Int) + 1)).toNat, by omega⟩
        rw [he] at c2 ⊢
        exact small_le (by omega)
      -- if every != []
      refine hnc _ _ ?_
      clear hnc hrc Rc
      try dsimp only
      refine seq_gen fun Rd hnd hrd => ?_
      refine ⟨fun σ' H' => ∃ (G8 : Hp) (pq : Addr) (p : List Int), σ' = [some (.ref ra), some (.ref ca), some (.ref ps), some (.int (0 + (i : Int))), some (.int ns[i]), some (.ref ea), some (.int (ns[i] / 3)), some (.str m), some (.ref pq), z9, z10] ∧ Ext G H G8 H' ∧ Same G3 G8 ∧ G8 pq = some (.lst (p.map V.int)) ∧ p.length ≤ 100 ∧ (∀ b ∈ p, Small b) ∧ G8 ps = none ∧ H' ps = some (.lst sv), ?_, ?_⟩
      · refine ⟨_, rfl, Nat.zero_le _, fun pe hpe => ⟨ea, pe, evs, rfl, rfl, SqL.of (same_upd hpe _ _ hea7), SqL.of upd_same, _, rfl, ?_⟩⟩
        have x8 := x7.trans (Ext.tmp (o := .lst []) x7.gh hpe)
        have hs8 := same_upd (o := .lst []) hpe _ _ hs7
        have hea8 := same_upd (o := .lst []) hpe _ _ hea7
        cases he : evs.isEmpty with
        | true => exact iteF ⟨_, q1, [ns[i] / 3 % ((rvs.length : Int) + 1)], rfl, x8, y7.g, upd_same, by show 1 ≤ 100; decide, (fun b hb => by rw [show b = ns[i] / 3 % ((rvs.length : Int) + 1) by simpa using hb]; exact hsm0), ns7, hs8⟩
        | false =>
          have hep : 0 < evs.length := by
            cases evs with
            | nil => cases he
            | cons _ _ => simp
          have hpos3 : (0 : Int) < (evs.length : Int) := by omega
          have d1 : 0 ≤ ns[i] / 3 % (evs.length : Int) := Int.emod_nonneg _ (by omega)
          have d2 : ns[i] / 3 % (evs.length : Int) < (evs.length : Int) := Int.emod_lt_of_pos _ hpos3
          have hj : (ns[i] / 3 % (evs.length : Int)).toNat < evs.length := by omega
          obtain ⟨d, hd, rd⟩ := revs.at (List.getElem?_eq_getElem hj)
          rw [List.getElem?_map] at hd
          refine fold_goal fun Zg hZg => ?_
          obtain ⟨p, hp, rfl⟩ := Option.map_eq_some_iff.mp hd
          refine hZg ?_
          clear hZg Zg
          refine fold_goal fun Zg hZg => ?_
          obtain ⟨pq, epq, hpq⟩ := Rep.path rd
          refine hZg ?_
          clear hZg Zg
          have hix : atI evs (ns[i] / 3 % (evs.length : Int)) = some (.ref pq) := by
            have := atI_nat (List.getElem?_eq_getElem hj)
            rwa [Int.toNat_of_nonneg d1, epq] at this
          have hmem : p ∈ pps 0 cs := hperm.mem_iff.mp (List.mem_of_getElem? hp)
          obtain ⟨u, hu'⟩ := down_pps _ cs (Nat.le_refl _) [] p hmem
          have hsome : (down cs p).isSome = true := by rw [show ([] : List Tr) ++ cs = cs from rfl] at hu'; rw [hu']; rfl
          have hlp := path_len p cs hsome
          have hpi := path_in hsome
          refine iteT ⟨_, rfl, _, rfl, _, rfl, ea, evs, rfl, .inl (SqL.of hea8), _, _, rfl, rfl, hpos3, ea, evs, _, _, rfl, rfl, SqL.of hea8, hix, ?_⟩
          refine ⟨_, pq, p, rfl, x8, y7.g, y7.g _ _ hpq, by omega, fun b hb => ?_, ns7, hs8⟩
          have := hpi b hb
          unfold Small
          have b6 : (1000000 : Nat) < 10 ^ 100 := by decide
          omega
      intro σ' H8 hZp
      refine fold_goal fun Zg hZg => ?_
      obtain ⟨G8, pq, p, rfl, x8, s38, hpq, hpl8, hsp8, ns8, hs8⟩ := hZp
      refine hZg ?_
      clear hZg Zg
      refine hnd _ _ ?_
      clear hnd hrd Rd
      try dsimp only
      refine seq_gen fun Re hne hre => ?_
      clear x7 y7 hs7 ns7 hea7 x6 hs6
      -- step = ("put", ..)
      have h40 : 0 ≤ ns[i] / 3 / 6 % 4 := Int.emod_nonneg _ (by decide)
      have h41 : ns[i] / 3 / 6 % 4 < 4 := Int.emod_lt_of_pos _ (by decide)
      refine fold_goal fun Zg hZg => ?_
      obtain ⟨mn, hmn, hmm⟩ := pick_int (xs := [0, 1, 2, 3]) h40 h41
      refine hZg ?_
      clear hZg Zg
      have hmnS : Small mn := by
        simp only [List.mem_cons, List.not_mem_nil, or_false] at hmm
        unfold Small
        have b6 : (1000000 : Nat) < 10 ^ 100 := by decide
        generalize (10 : Nat) ^ 100 = B at *
        rcases hmm with rfl | rfl | rfl | rfl <;> omega
      have hs1 : Small 1 := by unfold Small; decide
      refine ⟨_, rfl, (by show 4 ≤ sizeLine; decide), fun ml hml => ?_⟩
      have x9 := x8.trans (Ext.tmp (o := .lst [V.int 0, V.int 1, V.int 2, V.int 3]) x8.gh hml)
      have hs9 := same_upd (o := .lst [V.int 0, V.int 1, V.int 2, V.int 3]) hml _ _ hs8
      refine ⟨_, rfl, _, _, rfl, rfl, ⟨by decide, by decide⟩, _, _, rfl, rfl, (by show (0 : Int) < 4; decide), ml, _, _, _, rfl, rfl, SqL.of upd_same, hmn, _, rfl, (by show 4 ≤ sizeLine; decide), fun q2 g2 => ?_⟩
      have y10 := Ext.add (o := .tup [V.str (Str.ofString "put"), V.ref pq, V.int mn, V.str m]) x9.gh g2
      have x10 := x9.trans y10
      have hs10 := y10.h _ _ hs9
      have ns10 := y10.keep hs9 ns8
      -- the two ifs
      refine hne _ _ ?_
      clear hne hre Re
      try dsimp only
      refine seq_gen fun Rf hnf hrf => ?_
      refine ⟨fun σ' H' => ∃ (G9 : Hp) (sa : Addr) (st : Stp), σ' = [some (.ref ra), some (.ref ca), some (.ref ps), some (.int (0 + (i : Int))), some (.int ns[i]), some (.ref ea), some (.int (ns[i] / 3)), some (.str m), some (.ref pq), some (.ref sa), z10] ∧ Ext G H G9 H' ∧ Same G8 G9 ∧ Rep G9 (.ref sa) st.d ∧ st.Fit ∧ G9 ps = none ∧ H' ps = some (.lst sv), ?_, ?_⟩
      · have base0 : ∃ (G9 : Hp) (sa : Addr) (st : Stp), G9 = upd G8 q2 (.tup [V.str (Str.ofString "put"), V.ref pq, V.int mn, V.str m]) ∧ sa = q2 ∧ st = .put p mn m := ⟨_, _, _, rfl, rfl, rfl⟩
        have rput : Rep (upd G8 q2 (.tup [V.str (Str.ofString "put"), V.ref pq, V.int mn, V.str m])) (.ref q2) (Stp.put p mn m).d := .tup upd_same (.cons (.str _) (.cons (.lst (y10.g _ _ hpq) (ints_reps _)) (.cons (.int _) (.cons (.str _) .nil))))
        have fput : (Stp.put p mn m).Fit := ⟨by show p.length ≤ 1000; omega, hsp8, hmnS⟩
        refine ⟨_, rfl, Nat.zero_le _, fun pe hpe => ⟨ea, pe, evs, rfl, rfl, SqL.of (same_upd hpe _ _ (x10.gh _ _ (y10.g _ _ (s38 _ _ hea)))), SqL.of upd_same, _, rfl, ?_⟩⟩
        have x11 := x10.trans (Ext.tmp (o := .lst []) x10.gh hpe)
        have hs11 := same_upd (o := .lst []) hpe _ _ hs10
        refine ite2 (fun _ => ?_) (fun _ => iteF ⟨_, q2, .put p mn m, rfl, x11, y10.g, rput, fput, ns10, hs11⟩)
        refine ⟨_, rfl, _, _, rfl, rfl, (by show (0 : Int) < 3; decide), rfl, _, rfl, ?_⟩
        refine ite2 (fun _ => ?_) (fun _ => ⟨_, q2, .put p mn m, rfl, x11, y10.g, rput, fput, ns10, hs11⟩)
        refine ⟨_, rfl, (by show 2 ≤ sizeLine; decide), fun q3 g3 => ?_⟩
        have y12 := Ext.add (o := .tup [V.str (Str.ofString "cut"), V.ref pq]) x11.gh g3
        exact ⟨_, q3, .cut p, rfl, x11.trans y12, y10.g.trans y12.g, .tup upd_same (.cons (.str _) (.cons (.lst (y12.g _ _ (y10.g _ _ hpq)) (ints_reps _)) .nil)), ⟨by show p.length ≤ 1000; omega, hsp8, hs1⟩, y12.keep hs11 ns10, y12.h _ _ hs11⟩
      intro σ' H11 hZp
      refine fold_goal fun Zg hZg => ?_
      obtain ⟨G9, sa, st, rfl, x11, s89, rst, hfst, ns11, hs11⟩ := hZp
      refine hZg ?_
      clear hZg Zg
      refine hnf _ _ ?_
      clear hnf hrf Rf
      try dsimp only
      refine seq_gen fun Rg hng hrg => ?_
      clear x9 x10 y10 hs9 hs10 ns10
      refine ⟨fun σ' H' => ∃ (G9 : Hp) (sa : Addr) (st : Stp), σ' = [some (.ref ra), some (.ref ca), some (.ref ps), some (.int (0 + (i : Int))), some (.int ns[i]), some (.ref ea), some (.int (ns[i] / 3)), some (.str m), some (.ref pq), some (.ref sa), z10] ∧ Ext G H G9 H' ∧ Same G8 G9 ∧ Rep G9 (.ref sa) st.d ∧ st.Fit ∧ G9 ps = none ∧ H' ps = some (.lst sv), ?_, ?_⟩
      · refine ⟨_, rfl, Nat.zero_le _, fun pe hpe => ⟨ea, pe, evs, rfl, rfl, SqL.of (same_upd hpe _ _ (x11.gh _ _ (s89 _ _ (s38 _ _ hea)))), SqL.of upd_same, _, rfl, ?_⟩⟩
        have x12 := x11.trans (Ext.tmp (o := .lst []) x11.gh hpe)
        have hs12 := same_upd (o := .lst []) hpe _ _ hs11
        refine ite2 (fun _ => ?_) (fun _ => iteF ⟨_, sa, st, rfl, x12, s89, rst, hfst, ns11, hs12⟩)
        refine ⟨_, rfl, _, _, rfl, rfl, (by show (0 : Int) < 3; decide), rfl, _, rfl, ?_⟩
        refine ite2 (fun _ => ?_) (fun _ => ⟨_, sa, st, rfl, x12, s89, rst, hfst, ns11, hs12⟩)
        refine ⟨_, rfl, _, rfl, (by show 3 ≤ sizeLine; decide), fun q3 g3 => ?_⟩
        have y13 := Ext.add (o := .tup [V.str (Str.ofString "mark"), V.ref pq, V.str m]) x12.gh g3
        exact ⟨_, q3, .mark p m, rfl, x12.trans y13, s89.trans y13.g, .tup upd_same (.cons (.str _) (.cons (.lst (y13.g _ _ (s89 _ _ hpq)) (ints_reps _)) (.cons (.str _) .nil))), ⟨by show p.length ≤ 1000; omega, hsp8, hs1⟩, y13.keep hs12 ns11, y13.h _ _ hs12⟩
      clear x11 s89 rst hfst ns11 hs11 sa st G9
      intro σ' H11 hZp
      refine fold_goal fun Zg hZg => ?_
      obtain ⟨G9, sa, st, rfl, x11, s89, rst, hfst, ns11, hs11⟩ := hZp
      refine hZg ?_
      clear hZg Zg
      refine hng _ _ ?_
      clear hng hrg Rg
      try dsimp only
      refine seq_gen fun Rh hnh hrh => ?_
      have sG : Same G2 G9 := x3.g.trans (s38.trans s89)
      have rr9 : Rep G9 (.ref ra) (rowD cs) := rr.mono sG
      -- made = stepped(row, step)
      refine ⟨fun σ' H' => ∃ (GA : Hp) (mv : V), σ' = [some (.ref ra), some (.ref ca), some (.ref ps), some (.int (0 + (i : Int))), some (.int ns[i]), some (.ref ea), some (.int (ns[i] / 3)), some (.str m), some (.ref pq), some (.ref sa), some mv] ∧ Ext G H GA H' ∧ Same G9 GA ∧ ((st.beside cs = none ∧ mv = .non) ∨ ∃ bs, st.beside cs = some bs ∧ Rep GA mv (rowD (st.row cs bs))) ∧ GA ps = none ∧ H' ps = some (.lst sv), ?_, ?_⟩
      · exact ⟨_, rfl, _, rfl, G9, .ref ra, .ref sa, cs, st, rfl, x11.gh, rr9, rst, hfst, by omega, (fun bs hb G' H' r x' rr' => ⟨G', r, rfl, x11.trans x', x'.g, .inr ⟨bs, hb, rr'⟩, x'.keep hs11 ns11, x'.h _ _ hs11⟩), (fun hb H' s' => ⟨G9, .non, rfl, ⟨x11.g, x11.gh.trans s', x11.h.trans s', x11.new⟩, Same.refl _, .inl ⟨hb, rfl⟩, ns11, s' _ _ hs11⟩)⟩
      intro σ' H12 hZp
      refine fold_goal fun Zg hZg => ?_
      obtain ⟨GA, mv, rfl, x12, s9A, hmade, nsA, hsA⟩ := hZp
      refine hZg ?_
      clear hZg Zg
      refine hnh _ _ ?_
      clear hnh hrh Rh
      have rsA : Reps GA sv (sts.map Stp.d) := rs.mono (sG.trans s9A)
      have rrA : Rep GA (.ref ra) (rowD cs) := rr9.mono s9A
      rcases hmade with ⟨hb, rfl⟩ | ⟨bs, hb, rm⟩
      · refine ⟨_, rfl, _, rfl, iteF (iteF ?_)⟩
        exact hn0 _ _ ⟨GA, _, cs, sv, sts, _, _, _, _, _, _, _, _, rfl, x12, rrA, nsA, hsA, rsA, hrun, hfit, by omega, by omega, by omega⟩
      · refine fold_goal fun Zg hZg => ?_
        obtain ⟨da, dvs, rfl, hda, rds⟩ := rm.row
        refine hZg ?_
        clear hZg Zg
        have hkr := row_knots hb
        refine ⟨_, rfl, _, rfl, iteT ?_⟩
        refine ⟨_, rfl, GA, da, dvs, st.row cs bs, rfl, x12.gh, .inl hda, rds, by omega, fun H13 s13 => ⟨_, _, rfl, rfl, _, rfl, ?_⟩⟩
        have x13 : Ext G H GA H13 := ⟨x12.g, x12.gh.trans s13, x12.h.trans s13, x12.new⟩
        have hs13 := s13 _ _ hsA
        refine ite2 (fun _ => ?_) (fun _ => hn0 _ _ ⟨GA, _, cs, sv, sts, _, _, _, _, _, _, _, _, rfl, x13, rrA, nsA, hs13, rsA, hrun, hfit, by omega, by omega, by omega⟩)
        have hsvl := rsA.length
        rw [List.length_map] at hsvl
        refine ⟨_, rfl, .inl ⟨rfl, _, SqL.of hs13⟩, _, rfl, ps, sv, _, rfl, rfl, hs13, by omega, ?_⟩
        have x14 := x13.mut (o := .lst (sv ++ [.ref sa])) nsA hps
        refine ⟨_, rfl, hn0 _ _ ⟨GA, _, st.row cs bs, _, sts ++ [st], _, _, _, _, _, _, _, _, rfl, x14, rm, nsA, upd_same, ?_, ?_, ?_, ?_, by omega, by omega⟩⟩
        · rw [List.map_append]
          exact rsA.append (.cons (rst.mono s9A) .nil)
        · rw [runS_app, hrun, Option.bind_some, runS, hb]
          rfl
        · intro s' hs'
          rcases List.mem_append.mp hs' with q | q
          · exact hfit s' q
          · rw [show s' = st by simpa using q]
            exact hfst
        · rw [List.length_append, List.length_singleton]
          omega
    · intro σ H2 hZp
      refine fold_goal fun Zg hZg => ?_
      obtain ⟨G2, rv, cs, sv, sts, z3, z4, z5, z6, z7, z8, z9, z10, rfl, x, rr, ns2, hs2, rs, hrun, hfit, hsl, hkc, _⟩ := hZp
      refine hZg ?_
      clear hZg Zg
      have y1 := x.freeze ns2 hps hs2
      refine ⟨_, rfl, _, rfl, (by show 2 ≤ sizeLine; decide), fun q1 h1 => ?_⟩
      have y2 := Ext.add (o := .tup [rv, .ref ps]) y1.gh h1
      have hl : (Int.toNat ((ns.map V.int).length : Int)) = ns.length := by rw [hcl]; rfl
      refine kq _ _ _ cs sts (y1.trans y2) (.tup upd_same (.cons ((rr.mono (same_upd ns2)).mono y2.g) (.cons (.lst (y2.g _ _ upd_same) ((rs.mono (same_upd ns2)).mono y2.g)) .nil))) hrun hfit (by omega) (by omega)
end
end K3
namespace K3
open PySem L2 TT
section
variable {P : Program} {w : World} {K : PySem.W.Frag} {mg : Str → Option Value} {base : Heap}
theorem nd_step : (["_law_step"] : List Str).Nodup := by decide +kernel
/-! ### _law_refuses -/
noncomputable def spRefuses : Sp := fun vs H Q _ => ∃ (G : Hp) (i : Int) (v u : V) (ts : List Tr) (sts : List Stp), vs = [.int i, v, u] ∧ Same G H ∧ Rep G v (rowD ts) ∧ Rep G u (.lst (sts.map Stp.d)) ∧ (∀ st ∈ sts, st.Fit) ∧ knotsOf ts + sts.length ≤ 800 ∧ runS sts ts = none ∧ ∀ H' : Hp, Same H H' → Q (.bl true) H'
theorem scRefuses : FnScope ["_law_way", "_law_row", "_law_steps"] ["_law_way", "_law_row", "_law_steps"] (defScope sRefuses) := ⟨rfl, rfl, rfl, by decide +kernel, rfl, by decide +kernel, by decide +kernel⟩
theorem ok_refuses {CN : Addr} {f : Addr} {fd : FuncData} (F : Fun K "_law_refuses" "_law_refuses" sRefuses f fd) (T : Txt mg) (mN : mg "NoStep" = some (.ref CN)) (eN : PySem.W.exmOne K (.ref CN) (.ref CN) = some true) (F_behind : OkR P w K mg base 13 "behind" ["row", "steps"] (spBehind CN))
    (F_turned : OkR P w K mg base 13 "turned" ["row", "steps"] (spTurned CN)) : FnOk P w K mg base CX0 15 f fd ["_law_way", "_law_row", "_law_steps"] spRefuses := by
  refine F.ok scRefuses (fun vs H Q E h => ?_) (fun cdv A outer s H vs Q E hr h => ?_)
  · refine fold_goal fun Zg hZg => ?_
    obtain ⟨G, i, v, u, ts, sts, rfl, _⟩ := h
    refine hZg ?_
    clear hZg Zg
    rfl
  · refine fold_goal fun Zg hZg => ?_
    obtain ⟨G, i, v, u, ts, sts, rfl, sm, rv, ru, hfit, hkt, hrun, k⟩ := h
    refine hZg ?_
    clear hZg Zg
    have nd := scRefuses.nd
    refine ⟨_, (pss_cons (ps_setComp (k := 2) nd rfl (Or.inl rfl) (N := ["_law_step"]) (g := gName 0) (te := teCopy K) rfl (pi_list (pv 2)) (by decide +kernel) (by decide +kernel) rfl (by decide +kernel) (fun C s2 H2 fp => pg_name (i := 0) nd_step rfl (Or.inl rfl) (.inr rfl))
        (fun C s2 H2 fp => pe_op op_catT (pe_op op_catT (pe_slice sl_tup (pv 0) po_none (po_some pe_int)) (pe_tup (pa_cons (pe_callTy call_list_of rfl T.list bt_list (pa_cons (pe_ix ix_tup (pv 0) pe_int (fun _ _ => rfl)) pa_nil)) pa_nil))) (pe_slice sl_tup (pv 0) (po_some pe_int) po_none)))
      (pss_cons (ps_try (C := CN) ⟨rfl, rfl, rfl⟩ (pb_if (pt_cmpR op_eq (pv 0) pe_int (nomark _))
          (pb_drop F_behind (hr.mono (by decide)) rfl (pa_cons (pe_callTy call_list_of rfl T.list bt_list (pa_cons (pv 1) pa_nil)) (pa_cons (pv 2) pa_nil)))
          (pb_drop F_turned (hr.mono (by decide)) rfl (pa_cons (pe_callTy call_list_of rfl T.list bt_list (pa_cons (pv 1) pa_nil)) (pa_cons (pv 2) pa_nil)))) rfl mN
        (fun x oe => pss_one (ps_ret pe_bl)))
      (pss_one (ps_ret pe_bl)))), ?_⟩
    unfold tSeq tAsg
    refine copy_all (u := u) (j := 2) rfl sm ru (by omega) fun G1 H1 y x1 ry => ?_
    refine fold_goal fun Zg hZg => ?_
    obtain ⟨ra, rvs, rfl, hra, rts⟩ := rv.row
    refine hZg ?_
    clear hZg Zg
    have hra1 := x1.gh _ _ (x1.g _ _ hra)
    refine ⟨_, rfl, rfl, _, rfl, ?_⟩
    refine ite2 (fun _ => ?_) (fun _ => ?_)
    · refine ⟨_, rfl, ra, rvs, rfl, .inl (SqL.of hra1), fun q1 g1 => ⟨_, rfl, ?_⟩⟩
      have y2 := Ext.add (o := .lst rvs) x1.gh g1
      have x2 := x1.trans y2
      exact ⟨_, _, _, ts, sts, rfl, y2.gh, .lst upd_same (rts.mono x2.g), ry.mono y2.g, hfit, hkt, (fun cs hc => by rw [hrun] at hc; cases hc), (fun _ H' s' => ⟨eN, k _ (x2.h.trans s')⟩)⟩
    · refine ⟨_, rfl, ra, rvs, rfl, .inl (SqL.of hra1), fun q1 g1 => ⟨_, rfl, ?_⟩⟩
      have y2 := Ext.add (o := .lst rvs) x1.gh g1
      have x2 := x1.trans y2
      exact ⟨_, _, _, ts, sts, rfl, y2.gh, .lst upd_same (rts.mono x2.g), ry.mono y2.g, hfit, hkt, (fun cs hc => by rw [hrun] at hc; cases hc), (fun _ H' s' => ⟨eN, k _ (x2.h.trans s')⟩)⟩
end
end K3
namespace K3
open PySem L2 TT
section
variable {P : Program} {w : World} {K : PySem.W.Frag} {mg : Str → Option Value} {base : Heap}
/-! ### _law_turned_due -/
noncomputable def spDue : Sp := fun vs H Q _ => ∃ (G : Hp) (v u : V) (ts : List Tr) (sts : List Stp), vs = [v, u] ∧ Same G H ∧ Rep G v (rowD ts) ∧ Rep G u (.lst (sts.map Stp.d)) ∧ (∀ st ∈ sts, st.Fit) ∧ knotsOf ts + sts.length ≤ 800 ∧ (runS sts ts).isSome = true ∧
  ∀ (G' H' : Hp) (r : V), Ext G H G' H' → Rep G' r (.lst ((backsS sts ts).reverse.map Stp.d)) → Q r H'
theorem scDue : FnScope ["_law_row", "_law_steps", "_law_due", "_law_step", "_law_trees", "_law_k", "_law_knot"] ["_law_row", "_law_steps"] (defScope sDue) := ⟨rfl, rfl, rfl, by decide +kernel, rfl, by decide +kernel, by decide +kernel⟩
theorem run_take {sts : List Stp} {ts cs : List Tr} {i : Nat} (h : (runS sts ts).isSome = true) (hi : i < sts.length) (hr : runS (sts.take i) ts = some cs) : ∃ bs, (sts[i]).beside cs = some bs := by
  have e := runS_app (sts.take i) (sts.drop i) ts
  rw [List.take_append_drop, hr, Option.bind_some, List.drop_eq_getElem_cons hi, runS] at e
  cases hb : (sts[i]).beside cs with
  | none => rw [hb] at e; rw [e] at h; cases h
  | some bs => exact ⟨bs, rfl⟩
theorem ok_due {f : Addr} {fd : FuncData} (F : Fun K "_law_turned_due" "_law_turned_due" sDue f fd) (T : Txt mg) (F_stepped : Ok1 P w K mg base 5 "_law_stepped" ["_law_row", "_law_step"] spStepped) : FnOk P w K mg base CX0 7 f fd ["_law_row", "_law_steps"] spDue := by
  refine F.ok scDue (fun vs H Q E h => ?_) (fun cdv A outer s H vs Q E hr h => ?_)
  · refine fold_goal fun Zg hZg => ?_
    obtain ⟨G, v, u, ts, sts, rfl, _⟩ := h
    refine hZg ?_
    clear hZg Zg
    rfl
  · refine fold_goal fun Zg hZg => ?_
    obtain ⟨G, v, u, ts, sts, rfl, sm, rv, ru, hfit, hkt, hsome, kq⟩ := h
    refine hZg ?_
    clear hZg Zg
    have nd := scDue.nd
    have big := line_big
    refine ⟨_, (pss_cons (ps_set (i := 2) nd rfl (Or.inl rfl) (pe_lst pa_nil))
      (pss_cons (ps_for PassesOwn.never rfl (pi_list (pv 1)) (pg_name (i := 3) nd rfl (Or.inl rfl))
        (pss_cons (ps_set (i := 4) nd rfl (Or.inl rfl) (pe_callTy call_list_of rfl T.list bt_list (pa_cons (pv 0) pa_nil)))
        (pss_cons (ps_for PassesOwn.never rfl (pi_list (pe_slice sl_list (pe_ix ix_tup (pv 3) pe_int (fun _ _ => rfl)) po_none (po_some (pe_un un_neg pe_int)))) (pg_name (i := 5) nd rfl (Or.inl rfl))
          (pss_one (ps_set (i := 4) nd rfl (Or.inl rfl) (pe_callTy call_list_of rfl T.list bt_list (pa_cons (pe_slice sl_tup (pe_ix ix_list (pv 4) (pv 5) (fun _ _ => rfl)) (po_some pe_int) po_none) pa_nil)))))
        (pss_cons (ps_mid (ps_if (pt_cmpR op_eq (pe_ix ix_tup (pv 3) pe_int (fun _ _ => rfl)) pe_str (nomark _))
          (pss_one (ps_expr (pe_bm PySem.F.plainAttrs_list PySem.F.slot_list_append PySem.F.type_list_append mt_append (pv 2) (pa_cons (pe_tup (pa_cons pe_str (pa_cons (pe_callTy call_list_of rfl T.list bt_list (pa_cons (pe_ix ix_tup (pv 3) pe_int (fun _ _ => rfl)) pa_nil)) pa_nil))) pa_nil))))
          (pss_one (ps_if (pt_cmpR op_eq (pe_ix ix_tup (pv 3) pe_int (fun _ _ => rfl)) pe_str (nomark _))
            (pss_one (ps_expr (pe_bm PySem.F.plainAttrs_list PySem.F.slot_list_append PySem.F.type_list_append mt_append (pv 2) (pa_cons (pe_tup (pa_cons pe_str (pa_cons (pe_callTy call_list_of rfl T.list bt_list (pa_cons (pe_ix ix_tup (pv 3) pe_int (fun _ _ => rfl)) pa_nil)) (pa_cons (pe_ix ix_tup (pe_ix ix_list (pv 4) (pe_ix ix_list (pe_ix ix_tup (pv 3) pe_int (fun _ _ => rfl)) (pe_un un_neg pe_int) (fun _ _ => rfl)) (fun _ _ => rfl)) pe_int (fun _ _ => rfl)) pa_nil)))) pa_nil))))
            (pss_cons (ps_set (i := 6) nd rfl (Or.inl rfl) (pe_ix ix_list (pv 4) (pe_ix ix_list (pe_ix ix_tup (pv 3) pe_int (fun _ _ => rfl)) (pe_un un_neg pe_int) (fun _ _ => rfl)) (fun _ _ => rfl)))
            (pss_one (ps_expr (pe_bm PySem.F.plainAttrs_list PySem.F.slot_list_append PySem.F.type_list_append mt_append (pv 2) (pa_cons (pe_tup (pa_cons pe_str (pa_cons (pe_callTy call_list_of rfl T.list bt_list (pa_cons (pe_ix ix_tup (pv 3) pe_int (fun _ _ => rfl)) pa_nil)) (pa_cons (pe_op op_sub (pe_callB call_len_seq rfl T.len bt_len (pa_cons (pv 6) pa_nil)) pe_int) (pa_cons (pe_ix ix_tup (pv 6) pe_int (fun _ _ => rfl)) pa_nil))))) pa_nil)))))))))
        (pss_one (ps_set (i := 0) nd rfl (Or.inl rfl) (pe_fn F_stepped (hr.mono (by decide)) rfl (pa_cons (pv 0) (pa_cons (pv 3) pa_nil)))))))))
      (pss_one (ps_ret (pe_listRev rfl T.reversed rfl T.list hr.hd (pa_cons (pv 2) pa_nil)))))), ?_⟩
    cases ru with
    | @lst ua us _ hua rus =>
    have hul := rus.length
    rw [List.length_map] at hul
    refine ⟨Nat.zero_le _, fun pb hpb => ?_⟩
    have x1 : Ext G H G (upd H pb (.lst [])) := Ext.tmp sm hpb
    refine ⟨_, rfl, ua, rfl, ⟨_, SqL.of (x1.h _ _ (sm _ _ hua))⟩, for_listG (K := K) (a := ua) (xs := us)
      (fun i σ H2 => ∃ (G2 : Hp) (cv : V) (cs : List Tr) (bv : List V) (z3 z4 z5 z6 : Option V), σ = [some cv, some (.ref ua), some (.ref pb), z3, z4, z5, z6] ∧ Ext G H G2 H2 ∧ Rep G2 cv (rowD cs) ∧ runS (sts.take i) ts = some cs ∧ knotsOf cs ≤ knotsOf ts + i ∧
        G2 pb = none ∧ H2 pb = some (.lst bv) ∧ Reps G2 bv ((backsS (sts.take i) ts).map Stp.d) ∧ bv.length = i)
      ⟨_, v, ts, [], none, none, none, none, rfl, x1, rv, rfl, Nat.le_refl _, sm.none hpb, upd_same, .nil, rfl⟩ (fun i σ H2 _ hZq => by obtain ⟨G2, _, _, _, _, _, _, _, _, x, _⟩ := hZq; exact SqL.of (x.h _ _ (sm _ _ hua))) ?_ ?_⟩
    · intro i y σ H2 hi hZp R0 hnx0 hrx0
      refine fold_goal fun Zg hZg => ?_
      obtain ⟨G2, cv, cs, bv, z3, z4, z5, z6, rfl, x, rc, hrun, hkc, nb, hb2, rb, hbl⟩ := hZp
      refine hZg ?_
      clear hZg Zg
      have hil : i < us.length := (List.getElem?_eq_some_iff.mp hi).1
      have his : i < sts.length := by omega
      refine fold_goal fun Zg hZg => ?_
      obtain ⟨d, hd, rd⟩ := rus.at hi
      refine hZg ?_
      clear hZg Zg
      rw [List.getElem?_map, List.getElem?_eq_getElem his] at hd
      cases hd
      have hst : sts[i] ∈ sts := List.getElem_mem his
      have htk : sts.take (i + 1) = sts.take i ++ [sts[i]] := List.take_succ_eq_append_getElem his
      obtain ⟨bs, hb⟩ := run_take hsome his hrun
      have hbt := backsS_snoc (sts.take i) sts[i] ts cs bs hrun hb
      have hft := hfit _ hst
      rw [← htk] at hbt
      have hrn : runS (sts.take (i + 1)) ts = some (sts[i].row cs bs) := by
        rw [htk, runS_app, hrun, Option.bind_some, runS, hb]
        rfl
      generalize sts[i] = st at *
      refine fold_goal fun Zg hZg => ?_
      obtain ⟨hpe, hdn, hi0, hn0, hle⟩ := beside_some hb
      refine hZg ?_
      clear hZg Zg
      have rd2 := rd.mono x.g
      refine fold_goal fun Zg hZg => ?_
      obtain ⟨sa, sx, pq, rfl, hsa, hx0, hx1, hpq, hsl⟩ := rd2.step
      refine hZg ?_
      clear hZg Zg
      refine fold_goal fun Zg hZg => ?_
      obtain ⟨ca, cvs, rfl, hca, rcs⟩ := rc.row
      refine hZg ?_
      clear hZg Zg
      -- trees = list(row)
      refine ⟨_, rfl, ca, cvs, rfl, .inl (SqL.of (x.gh _ _ hca)), fun q0 g0 => ?_⟩
      have y0 := Ext.add (o := .lst cvs) x.gh g0
      have x2 := x.trans y0
      -- for k in step[1][:-1]
      try dsimp only
      refine seq_gen fun Ra hna hra => ?_
      refine ⟨_, rfl, sa, sx, _, _, rfl, rfl, SqT.of (x2.gh _ _ (y0.g _ _ hsa)), atI_nat (j := 1) hx1, _, rfl, _, rfl, pq, _, rfl, SqL.of (x2.gh _ _ (y0.g _ _ hpq)), fun q1 g1 => ?_⟩
      rw [front_ints]
      have hdf : (down cs st.path.dropLast).isSome = true := by rw [hdn]; rfl
      generalize hFp : st.path.dropLast = Fp at *
      have y1 := Ext.add (o := .lst (Fp.map V.int)) x2.gh g1
      have x3 := x2.trans y1
      have hb3 : upd (upd H2 q0 (.lst cvs)) q1 (.lst (Fp.map V.int)) pb = some (.lst bv) := y1.h _ _ (y0.h _ _ hb2)
      have nb3 : upd (upd G2 q0 (.lst cvs)) q1 (.lst (Fp.map V.int)) pb = none := y1.keep (y0.h _ _ hb2) (y0.keep hb2 nb)
      have s23 : Same G2 (upd (upd G2 q0 (.lst cvs)) q1 (.lst (Fp.map V.int))) := y0.g.trans y1.g
      refine ⟨q1, rfl, ⟨_, SqL.of upd_same⟩, for_listG (K := K) (a := q1) (xs := Fp.map V.int)
        (fun i σ H8 => ∃ (G8 : Hp) (tv : V) (us : List Tr) (z : Option V), σ = [some (.ref ca), some (.ref ua), some (.ref pb), some (.ref sa), some tv, z, z6] ∧ Ext G H G8 H8 ∧ Same (upd (upd G2 q0 (.lst cvs)) q1 (.lst (Fp.map V.int))) G8 ∧ Rep G8 tv (rowD us) ∧ down cs (Fp.take i) = some us ∧ G8 pb = none ∧ H8 pb = some (.lst bv))
        ⟨_, .ref q0, cs, z5, rfl, x3, Same.refl _, .lst (y1.g _ _ upd_same) (rcs.mono s23), rfl, nb3, hb3⟩ (fun i σ H8 _ hZq => by obtain ⟨G8, _, _, _, _, x, s8, _⟩ := hZq; exact SqL.of (x.gh _ _ (s8 _ _ upd_same))) ?_ ?_⟩
      · intro i y σ H8 hi hZp R1 hnx1 hrx1
        refine fold_goal fun Zg hZg => ?_
        obtain ⟨G8, tv, us', z, rfl, x, s8, rt, hd, n8, h8⟩ := hZp
        refine hZg ?_
        clear hZg Zg
        have hil : i < Fp.length := by
          have := (List.getElem?_eq_some_iff.mp hi).1
          rwa [List.length_map] at this
        obtain rfl : V.int Fp[i] = y := by
          rw [List.getElem?_map, List.getElem?_eq_getElem hil] at hi
          exact Option.some.inj hi
        refine fold_goal fun Zg hZg => ?_
        obtain ⟨us2, t, hus, h0, ht, hk'⟩ := down_at hdf hil
        refine hZg ?_
        clear hZg Zg
        obtain rfl : us' = us2 := Option.some.inj (hd.symm.trans hus)
        refine fold_goal fun Zg hZg => ?_
        obtain ⟨ta, tvs, rfl, hta, rus'⟩ := rt.row
        refine hZg ?_
        clear hZg Zg
        obtain ⟨tr, htr, rtr⟩ := rus'.get (i := (Fp[i]).toNat) (d := t.d) (by rw [List.getElem?_map, ht]; rfl)
        have hix2 : atI tvs Fp[i] = some tr := by
          have := atI_nat htr
          rwa [Int.toNat_of_nonneg h0] at this
        refine fold_goal fun Zg hZg => ?_
        obtain ⟨tra, kv, rfl, htra, rkv⟩ := rtr.tree
        refine hZg ?_
        clear hZg Zg
        refine ⟨_, rfl, _, rfl, ta, tvs, _, _, rfl, rfl, SqL.of (x.gh _ _ hta), hix2, _, rfl, tra, _, rfl, SqT.of (x.gh _ _ htra), kids_not _ _, fun q8 k8 => ⟨q8, kv, rfl, .inr (SqT.of (by rw [upd_same, kids_cut])), fun q9 k9 => ?_⟩⟩
        have z8 := Ext.tmp (o := .tup (cutV (V.str t.mark :: kv) (some 1) none)) x.gh k8
        have x8 := x.trans z8
        have y9 := Ext.add (o := .lst kv) x8.gh k9
        exact hnx1 _ _ ⟨_, .ref q9, t.kids, _, rfl, x8.trans y9, s8.trans y9.g, .lst upd_same (rkv.mono y9.g), hk', y9.keep (z8.h _ _ h8) n8, y9.h _ _ (z8.h _ _ h8)⟩
      intro σ H8 hZp
      refine fold_goal fun Zg hZg => ?_
      obtain ⟨G8, tv, bs', z, rfl, x8, s8, rt, hd, n8, h8⟩ := hZp
      refine hZg ?_
      clear hZg Zg
      refine hna _ _ ?_
      clear hna hra Ra
      rw [List.length_map, List.take_length] at hd
      obtain rfl : bs = bs' := Option.some.inj (hdn.symm.trans hd)
      refine fold_goal fun Zg hZg => ?_
      obtain ⟨ta, tvs, rfl, hta, rbs⟩ := rt.row
      refine hZg ?_
      clear hZg Zg
      have hta8 := x8.gh _ _ hta
      have g28 : Same G2 G8 := s23.trans s8
      have hsa8 := x8.gh _ _ (g28 _ _ hsa)
      have hpq8 := x8.gh _ _ (g28 _ _ hpq)
      have one : st.many = 1 → ∃ (t : Tr) (rest : List Tr) (tra : Addr) (kv : List V), Stp.taken st bs = t :: rest ∧ atI tvs (st.path.getLastD 0) = some (.ref tra) ∧ G8 tra = some (.tup (.str t.mark :: kv)) ∧ Reps G8 kv (t.kids.map Tr.d) := fun hm => by
        have hlt : (st.path.getLastD 0).toNat < bs.length := by omega
        obtain ⟨tr, htr, rtr⟩ := rbs.get (i := (st.path.getLastD 0).toNat) (d := (bs[(st.path.getLastD 0).toNat]).d) (by rw [List.getElem?_map, List.getElem?_eq_getElem hlt]; rfl)
        refine fold_goal fun Zg hZg => ?_
        obtain ⟨tra, kv, rfl, htra, rkv⟩ := rtr.tree
        refine hZg ?_
        clear hZg Zg
        refine ⟨_, [], tra, kv, ?_, ?_, htra, rkv⟩
        · unfold Stp.taken
          rw [hm, List.drop_eq_getElem_cons hlt]
          rfl
        · have := atI_nat htr
          rwa [Int.toNat_of_nonneg hi0] at this
      -- the new step
      try dsimp only
      refine seq_gen fun Rb hnb hrb => ?_
      refine ⟨fun σ' H' => ∃ (G9 : Hp) (r : V) (zz : Option V), σ' = [some (.ref ca), some (.ref ua), some (.ref pb), some (.ref sa), some (.ref ta), z, zz] ∧ Ext G H G9 H' ∧ Same G8 G9 ∧ G9 pb = none ∧ H' pb = some (.lst (bv ++ [r])) ∧ Rep G9 r (st.back (Stp.taken st bs)).d, ?_, ?_⟩
      · have fin : ∀ (G9 H9 : Hp) (r : V) (zz : Option V), Ext G8 H8 G9 H9 → Rep G9 r (st.back (Stp.taken st bs)).d → ∃ (G9' : Hp) (r' : V) (zz' : Option V), [some (V.ref ca), some (.ref ua), some (.ref pb), some (.ref sa), some (.ref ta), z, zz] = [some (.ref ca), some (.ref ua), some (.ref pb), some (.ref sa), some (.ref ta), z, zz'] ∧ Ext G H G9' (upd H9 pb (.lst (bv ++ [r]))) ∧ Same G8 G9' ∧ G9' pb = none ∧ (upd H9 pb (.lst (bv ++ [r]))) pb = some (.lst (bv ++ [r'])) ∧ Rep G9' r' (st.back (Stp.taken st bs)).d := fun G9 H9 r zz x9 rr =>
          ⟨G9, r, zz, rfl, (x8.trans x9).mut (x9.keep h8 n8) hpb, x9.g, x9.keep h8 n8, upd_same, rr⟩
        refine ⟨_, rfl, sa, sx, _, _, rfl, rfl, SqT.of hsa8, atI_nat (j := 0) hx0, rfl, _, rfl, ?_⟩
        clear hbt hrn hb hft hle hn0
        cases st with
        | put p n m =>
          refine iteT ⟨_, rfl, .inl ⟨rfl, _, SqL.of h8⟩, _, rfl, sa, sx, _, _, rfl, rfl, SqT.of hsa8, atI_nat (j := 1) hx1, pq, _, rfl, .inl (SqL.of hpq8), fun q2 g2 => ⟨by show 2 ≤ sizeLine; decide, fun q3 g3 => ?_⟩⟩
          have y2 := Ext.add (o := .lst ((Stp.put p n m).path.map V.int)) x8.gh g2
          have y3 := Ext.add (o := .tup [V.str (Str.ofString "cut"), V.ref q2]) y2.gh g3
          refine ⟨pb, bv, _, rfl, rfl, y3.h _ _ (y2.h _ _ h8), by omega, fin _ _ _ _ (y2.trans y3) ?_⟩
          have e : (Stp.put p n m).back (Stp.taken (Stp.put p n m) bs) = .cut p := by cases Stp.taken (Stp.put p n m) bs <;> rfl
          rw [e]
          exact .tup upd_same (.cons (.str _) (.cons (.lst (y3.g _ _ upd_same) (ints_reps _)) .nil))
        | mark p m =>
          refine fold_goal fun Zg hZg => ?_
          obtain ⟨t, rest, tra, kv, etk, hix, htra, rkv⟩ := one rfl
          refine hZg ?_
          clear hZg Zg
          refine iteF ⟨_, rfl, sa, sx, _, _, rfl, rfl, SqT.of hsa8, atI_nat (j := 0) hx0, rfl, _, rfl, iteT ?_⟩
          refine ⟨_, rfl, .inl ⟨rfl, _, SqL.of h8⟩, _, rfl, sa, sx, _, _, rfl, rfl, SqT.of hsa8, atI_nat (j := 1) hx1, pq, _, rfl, .inl (SqL.of hpq8), fun q2 g2 => ?_⟩
          have y2 := Ext.add (o := .lst ((Stp.mark p m).path.map V.int)) x8.gh g2
          refine ⟨_, rfl, _, rfl, sa, sx, _, _, rfl, rfl, SqT.of (y2.h _ _ hsa8), atI_nat (j := 1) hx1, _, rfl, pq, _, _, _, rfl, rfl, SqL.of (y2.h _ _ hpq8), last_int hpe, ta, tvs, _, _, rfl, rfl, SqL.of (y2.h _ _ hta8), hix, tra, _, _, _, rfl, rfl, SqT.of (y2.h _ _ (x8.gh _ _ htra)), atI_nat (j := 0) rfl, (by show 3 ≤ sizeLine; decide), fun q3 g3 => ?_⟩
          have y3 := Ext.add (o := .tup [V.str (Str.ofString "mark"), V.ref q2, V.str t.mark]) y2.gh g3
          refine ⟨pb, bv, _, rfl, rfl, y3.h _ _ (y2.h _ _ h8), by omega, fin _ _ _ _ (y2.trans y3) ?_⟩
          rw [etk]
          exact .tup upd_same (.cons (.str _) (.cons (.lst (y3.g _ _ upd_same) (ints_reps _)) (.cons (.str _) .nil)))
        | cut p =>
          refine fold_goal fun Zg hZg => ?_
          obtain ⟨t, rest, tra, kv, etk, hix, htra, rkv⟩ := one rfl
          refine hZg ?_
          clear hZg Zg
          have hkl := rkv.length
          rw [List.length_map] at hkl
          refine iteF ⟨_, rfl, sa, sx, _, _, rfl, rfl, SqT.of hsa8, atI_nat (j := 0) hx0, rfl, _, rfl, iteF ?_⟩
          refine ⟨_, rfl, _, rfl, sa, sx, _, _, rfl, rfl, SqT.of hsa8, atI_nat (j := 1) hx1, _, rfl, pq, _, _, _, rfl, rfl, SqL.of hpq8, last_int hpe, ta, tvs, _, _, rfl, rfl, SqL.of hta8, hix, ?_⟩
          refine ⟨_, rfl, .inl ⟨rfl, _, SqL.of h8⟩, _, rfl, sa, sx, _, _, rfl, rfl, SqT.of hsa8, atI_nat (j := 1) hx1, pq, _, rfl, .inl (SqL.of hpq8), fun q2 g2 => ?_⟩
          have y2 := Ext.add (o := .lst ((Stp.cut p).path.map V.int)) x8.gh g2
          refine ⟨_, rfl, tra, _, rfl, .inr (SqT.of (y2.h _ _ (x8.gh _ _ htra))), _, _, rfl, rfl, _, rfl, tra, _, _, _, rfl, rfl, SqT.of (y2.h _ _ (x8.gh _ _ htra)), atI_nat (j := 0) rfl, (by show 4 ≤ sizeLine; decide), fun q3 g3 => ?_⟩
          have y3 := Ext.add (o := .tup [V.str (Str.ofString "put"), V.ref q2, V.int (((V.str t.mark :: kv).length : Int) - 1), V.str t.mark]) y2.gh g3
          refine ⟨pb, bv, _, rfl, rfl, y3.h _ _ (y2.h _ _ h8), by omega, fin _ _ _ _ (y2.trans y3) ?_⟩
          rw [etk]
          have e : ((V.str t.mark :: kv).length : Int) - 1 = (t.kids.length : Int) := by rw [List.length_cons]; omega
          show Rep _ _ (Stp.put p (t.kids.length : Int) t.mark).d
          rw [← e]
          exact .tup upd_same (.cons (.str _) (.cons (.lst (y3.g _ _ upd_same) (ints_reps _)) (.cons (.int _) (.cons (.str _) .nil))))
      intro σ' H9 hZp
      refine fold_goal fun Zg hZg => ?_
      obtain ⟨G9, r, zz, rfl, x9, s89, n9, h9, rr⟩ := hZp
      refine hZg ?_
      clear hZg Zg
      refine hnb _ _ ?_
      clear hnb hrb Rb
      have g29 : Same G2 G9 := g28.trans s89
      refine ⟨_, rfl, _, rfl, G9, _, _, cs, st, rfl, x9.gh, .lst (g29 _ _ hca) (rcs.mono g29), rd2.mono g29, hft, by omega, fun bs' hb' G5 H5 r5 x5 rr5 => ?_, fun hb' H' s' => ?_⟩
      · rw [hb] at hb'
        cases hb'
        refine hnx0 _ _ ⟨G5, r5, _, _, _, _, _, _, rfl, x9.trans x5, rr5, hrn, ?_, x5.keep h9 n9, x5.h _ _ h9, ?_, ?_⟩
        · have := row_knots hb
          omega
        · rw [hbt, List.map_append]
          exact ((rb.mono g29).mono x5.g).append (.cons (rr.mono x5.g) .nil)
        · rw [List.length_append, List.length_singleton, hbl]
      · rw [hb] at hb'
        cases hb'
    · intro σ H2 hZp
      refine fold_goal fun Zg hZg => ?_
      obtain ⟨G2, cv, cs, bv, z3, z4, z5, z6, rfl, x, rc, hrun, hkc, nb, hb2, rb, hbl⟩ := hZp
      refine hZg ?_
      clear hZg Zg
      rw [hul, List.take_length] at rb
      refine ⟨_, rfl, pb, bv, rfl, SqL.of hb2, fun l hl => ?_⟩
      have y3 := Ext.add (o := .lst bv.reverse) x.gh hl
      refine kq _ _ _ (x.trans y3) (.lst upd_same ?_)
      rw [List.map_reverse]
      exact rb.rev.mono y3.g
end
end K3
namespace K3
open PySem L2 TT
noncomputable def Stp.len : Stp → Int
  | .mark _ _ => 3
  | .cut _ => 2
  | .put _ _ _ => 4
noncomputable def stepTab : List (Key × V) := mergeK [] [(Sum.inr (Str.ofString "mark"), V.int 3), (Sum.inr (Str.ofString "cut"), V.int 2), (Sum.inr (Str.ofString "put"), V.int 4)]
theorem tab_kind (st : Stp) : valV stepTab (Sum.inr st.kind) = some (V.int (Stp.len st)) := by
  cases st <;> rfl
theorem rest_len {st : Stp} {ds : List D} (h : st.d = .tup (.str st.kind :: pathD st.path :: ds)) : Stp.len st = ((ds.length + 2 : Nat) : Int) := by
  cases st with
  | mark p m => cases h; rfl
  | cut p => cases h; rfl
  | put p n m => cases h; rfl
section
variable {P : Program} {w : World} {K : PySem.W.Frag} {mg : Str → Option Value} {base : Heap}
/-! ### _law_are_steps -/
noncomputable def spAre : Sp := fun vs H Q _ => ∃ (G : Hp) (v : V) (sts : List Stp), vs = [v] ∧ Same G H ∧ Rep G v (.lst (sts.map Stp.d)) ∧ ∀ H' : Hp, Same H H' → Q (.bl true) H'
theorem scAre : FnScope ["_law_found", "_law_step", "_law_sizes"] ["_law_found"] (defScope sAre) := ⟨rfl, rfl, rfl, by decide +kernel, rfl, by decide +kernel, by decide +kernel⟩
theorem ok_are {f : Addr} {fd : FuncData} (F : Fun K "_law_are_steps" "_law_are_steps" sAre f fd) (T : Txt mg) (F_path : Ok1 P w K mg base 3 "_law_is_path" ["_law_found"] spIsPath) : FnOk P w K mg base CX0 5 f fd ["_law_found"] spAre := by
  refine F.ok scAre (fun vs H Q E h => ?_) (fun cdv A outer s H vs Q E hr h => ?_)
  · refine fold_goal fun Zg hZg => ?_
    obtain ⟨G, v, sts, rfl, _⟩ := h
    refine hZg ?_
    clear hZg Zg
    rfl
  · refine fold_goal fun Zg hZg => ?_
    obtain ⟨G, v, sts, rfl, sm, rv, k⟩ := h
    refine hZg ?_
    clear hZg Zg
    have nd := scAre.nd
    have hu := hu_of hr
    have big := line_big
    refine ⟨_, (pss_cons (ps_if (pt_not (pt_val (pe_callB call_isi rfl T.isinstance bt_isinstance (pa_cons (pv 0) (pa_cons (pe_ty rfl T.list bt_list) pa_nil)))))
        (pss_one (ps_ret pe_bl))
        pss_nil)
      (pss_cons (ps_for PassesOwn.never rfl (pi_list (pv 0)) (pg_name (i := 1) nd rfl (Or.inl rfl))
        (pss_cons (ps_if (PW.pt (pw_or (pt_not (pt_val (pe_callB call_isi rfl T.isinstance bt_isinstance (pa_cons (pv 1) (pa_cons (pe_ty rfl T.tuple bt_tuple) pa_nil))))) (pw_or (pt_cmpR op_lt (pe_callB call_len_seq rfl T.len bt_len (pa_cons (pv 1) pa_nil)) pe_int (nomark _)) (pw_or1 (pt_not (pt_val (pe_callB call_isi rfl T.isinstance bt_isinstance (pa_cons (pe_ix ix_tup (pv 1) pe_int (fun _ _ => rfl)) (pa_cons (pe_ty rfl T.str bt_str) pa_nil)))))))))
          (pss_one (ps_ret pe_bl))
          pss_nil)
        (pss_cons (ps_set (i := 2) nd rfl (Or.inl rfl) (pe_disp (pps_cons pe_str pe_int (pps_cons pe_str pe_int (pps_cons pe_str pe_int pps_nil))) rfl rfl (by simp) (by decide)))
        (pss_cons (ps_if (PW.pt (pw_or (pt_cmpR op_ne (pe_dget2 hu (pv 2) (pe_ix ix_tup (pv 1) pe_int (fun _ _ => rfl)) pe_int ⟨rfl, rfl, rfl, rfl⟩) (pe_callB call_len_seq rfl T.len bt_len (pa_cons (pv 1) pa_nil)) (nomark _)) (pw_or1 (pt_not (pt_val (pe_fn F_path (hr.mono (by decide)) rfl (pa_cons (pe_ix ix_tup (pv 1) pe_int (fun _ _ => rfl)) pa_nil)))))))
          (pss_one (ps_ret pe_bl))
          pss_nil)
        (pss_cons (ps_if (PW.pt (pw_and (pt_cmpR op_ne (pe_ix ix_tup (pv 1) pe_int (fun _ _ => rfl)) pe_str (nomark _)) (pw_and1 (pt_not (pt_val (pe_callB call_isi rfl T.isinstance bt_isinstance (pa_cons (pe_ix ix_tup (pv 1) (pe_un un_neg pe_int) (fun _ _ => rfl)) (pa_cons (pe_ty rfl T.str bt_str) pa_nil))))))))
          (pss_one (ps_ret pe_bl))
          pss_nil)
        (pss_one (ps_if (PW.pt (pw_and (pt_cmpR op_eq (pe_ix ix_tup (pv 1) pe_int (fun _ _ => rfl)) pe_str (nomark _)) (pw_and1 (pt_not (pt_val (pe_fn F_path (hr.mono (by decide)) rfl (pa_cons (pe_lst (pa_cons (pe_ix ix_tup (pv 1) pe_int (fun _ _ => rfl)) pa_nil)) pa_nil)))))))
          (pss_one (ps_ret pe_bl))
          pss_nil)))))))
      (pss_one (ps_ret pe_bl)))), ?_⟩
    cases rv with
    | @lst ua us _ hua rus =>
    have hul := rus.length
    rw [List.length_map] at hul
    refine ⟨_, rfl, _, _, _, _, rfl, .lst (sm _ _ hua), kit_list_list K, _, rfl, iteF ?_⟩
    refine ⟨_, rfl, ua, rfl, ⟨_, SqL.of (sm _ _ hua)⟩, for_listG (K := K) (a := ua) (xs := us) (fun i σ H2 => ∃ z1 z2 : Option V, σ = [some (.ref ua), z1, z2] ∧ Same H H2) ⟨none, none, rfl, Same.refl _⟩ (fun i σ H2 _ hZq => by obtain ⟨_, _, _, e⟩ := hZq; exact SqL.of (e _ _ (sm _ _ hua))) ?_ ?_⟩
    · intro i y σ H2 hi hZp R0 hnx0 hrx0
      refine fold_goal fun Zg hZg => ?_
      obtain ⟨z1, z2, rfl, s2⟩ := hZp
      refine hZg ?_
      clear hZg Zg
      have hil : i < us.length := (List.getElem?_eq_some_iff.mp hi).1
      have his : i < sts.length := by omega
      refine fold_goal fun Zg hZg => ?_
      obtain ⟨d, hd, rd⟩ := rus.at hi
      refine hZg ?_
      clear hZg Zg
      rw [List.getElem?_map, List.getElem?_eq_getElem his] at hd
      cases hd
      generalize sts[i] = st at *
      have g2 : Same G H2 := sm.trans s2
      refine fold_goal fun Zg hZg => ?_
      obtain ⟨sa, pq, rest, ds, rfl, hsa, hpq, hds, rrest, hrl⟩ := step_parts rd
      refine hZg ?_
      clear hZg Zg
      have hlen := rest_len hds
      have hrd := rrest.length
      have hsa2 := g2 _ _ hsa
      refine ⟨_, rfl, _, _, _, _, rfl, .tup hsa2, kit_tuple_tuple K, _, rfl, iteF ?_⟩
      refine ⟨_, rfl, sa, _, rfl, .inr (SqT.of hsa2), _, _, rfl, rfl, _, rfl, ?_⟩
      refine ite2 (fun h => ?_) (fun _ => ?_)
      · exfalso
        have := of_decide_eq_true h
        simp only [List.length_cons] at this
        omega
      refine ⟨_, rfl, sa, _, _, _, rfl, rfl, SqT.of hsa2, atI_nat (j := 0) rfl, _, _, _, _, rfl, .str _, kit_str_str K, _, rfl, iteF ?_⟩
      -- sizes
      refine fun dp hdp => ⟨upd_same, [(Sum.inr (Str.ofString "mark"), V.int 3), (Sum.inr (Str.ofString "cut"), V.int 2), (Sum.inr (Str.ofString "put"), V.int 4)], rfl, by decide, ?_⟩
      have s3 : Same H2 (upd (upd H2 dp (.dK [])) dp (.dK stepTab)) := fun b u e => by
        rw [upd_ne (ne_of_none e hdp), upd_ne (ne_of_none e hdp)]
        exact e
      have hdp3 : upd (upd H2 dp (.dK [])) dp (.dK stepTab) dp = some (.dK stepTab) := upd_same
      unfold stepTab at s3 hdp3
      generalize upd (upd H2 dp (.dK [])) dp (.dK (mergeK [] [(Sum.inr (Str.ofString "mark"), V.int 3), (Sum.inr (Str.ofString "cut"), V.int 2), (Sum.inr (Str.ofString "put"), V.int 4)])) = H3 at *
      have hsa3 := s3 _ _ hsa2
      have hpq3 := s3 _ _ (g2 _ _ hpq)
      have g3 := g2.trans s3
      have htab := tab_kind st
      unfold stepTab at htab
      refine ⟨_, rfl, dp, rfl, .inl ⟨_, .inl hdp3⟩, _, rfl, sa, _, _, _, rfl, rfl, SqT.of hsa3, atI_nat (j := 0) rfl, _, DGet.k (k := Sum.inr st.kind) hdp3, ?_⟩
      rw [htab]
      refine ⟨_, rfl, sa, _, rfl, .inr (SqT.of hsa3), rfl, _, rfl, iteNS ?_ ?_⟩
      · show V.int (Stp.len st) = V.int _
        rw [hlen]
        simp only [List.length_cons]
        rw [hrd]
      refine ⟨_, rfl, sa, _, _, _, rfl, rfl, SqT.of hsa3, atI_nat (j := 1) rfl, H3, _, st.path, rfl, Same.refl _, .lst hpq3 (ints_reps _), _, rfl, iteF ?_⟩
      -- step[0] != "cut" ..
      refine ⟨_, rfl, sa, _, _, _, rfl, rfl, SqT.of hsa3, atI_nat (j := 0) rfl, rfl, _, rfl, ?_⟩
      cases st with
      | mark p m =>
        cases hds
        cases rrest with
        | cons r1 t1 =>
        cases r1
        cases t1
        refine iteT ⟨_, rfl, _, rfl, sa, _, _, _, rfl, rfl, SqT.of hsa3, rfl, _, _, _, _, rfl, .str _, kit_str_str K, _, rfl, iteF ?_⟩
        exact ⟨_, rfl, sa, _, _, _, rfl, rfl, SqT.of hsa3, atI_nat (j := 0) rfl, rfl, _, rfl, iteF (iteF (hnx0 _ _ ⟨_, _, rfl, s2.trans s3⟩))⟩
      | cut p =>
        refine iteF (iteF ?_)
        exact ⟨_, rfl, sa, _, _, _, rfl, rfl, SqT.of hsa3, atI_nat (j := 0) rfl, rfl, _, rfl, iteF (iteF (hnx0 _ _ ⟨_, _, rfl, s2.trans s3⟩))⟩
      | put p n m =>
        cases hds
        cases rrest with
        | cons r1 t1 =>
        cases r1
        cases t1 with
        | cons r2 t2 =>
        cases r2
        cases t2
        refine iteT ⟨_, rfl, _, rfl, sa, _, _, _, rfl, rfl, SqT.of hsa3, rfl, _, _, _, _, rfl, .str _, kit_str_str K, _, rfl, iteF ?_⟩
        refine ⟨_, rfl, sa, _, _, _, rfl, rfl, SqT.of hsa3, atI_nat (j := 0) rfl, rfl, _, rfl, iteT ?_⟩
        refine ⟨_, rfl, sa, _, _, _, rfl, rfl, SqT.of hsa3, atI_nat (j := 2) rfl, (by show 1 ≤ sizeLine; decide), fun q1 g1 => ?_⟩
        exact ⟨_, _, [n], rfl, Same.refl _, .lst upd_same (ints_reps [n]), _, rfl, iteF (hnx0 _ _ ⟨_, _, rfl, (s2.trans s3).trans (same_upd g1)⟩)⟩
    · intro σ H2 hZp
      refine fold_goal fun Zg hZg => ?_
      obtain ⟨z1, z2, rfl, s2⟩ := hZp
      refine hZg ?_
      clear hZg Zg
      exact k _ s2
end
end K3
namespace K3
open PySem L2 TT
/-! ### facts of steps -/
theorem step_size {st : Stp} (h : st.Fit) : st.d.size ≤ 1010 := by
  have h1 := h.1
  cases st with
  | mark p m =>
    have h1 : p.length ≤ 1000 := h1
    simp only [Stp.d, D.size, sizes, pathD_size]
    omega
  | cut p =>
    have h1 : p.length ≤ 1000 := h1
    simp only [Stp.d, D.size, sizes, pathD_size]
    omega
  | put p n m =>
    have h1 : p.length ≤ 1000 := h1
    simp only [Stp.d, D.size, sizes, pathD_size]
    omega
theorem steps_size : ∀ {sts : List Stp}, (∀ st ∈ sts, st.Fit) → sizes (sts.map Stp.d) ≤ 1010 * sts.length
  | [], _ => Nat.le_refl _
  | st :: r, h => by
    have h1 := step_size (h st (List.mem_cons_self ..))
    have h2 := steps_size (sts := r) fun s hs => h s (List.mem_cons_of_mem _ hs)
    rw [List.map_cons, sizes, List.length_cons]
    omega
theorem run_knots : ∀ (sts : List Stp) (ts cs : List Tr), runS sts ts = some cs → knotsOf cs ≤ knotsOf ts + sts.length
  | [], ts, cs, h => by cases h; exact Nat.le_refl _
  | st :: r, ts, cs, h => by
    rw [runS] at h
    cases e : st.beside ts with
    | none => rw [e] at h; cases h
    | some bs =>
      rw [e] at h
      have h1 := run_knots r _ cs h
      have h2 := row_knots e
      rw [List.length_cons]
      omega
theorem backs_len : ∀ (sts : List Stp) (ts cs : List Tr), runS sts ts = some cs → (backsS sts ts).length = sts.length
  | [], ts, cs, h => rfl
  | st :: r, ts, cs, h => by
    rw [runS] at h
    rw [backsS]
    cases e : st.beside ts with
    | none => rw [e] at h; cases h
    | some bs =>
      rw [e] at h
      have h1 := backs_len r _ cs h
      rw [List.length_cons, List.length_cons, h1]
theorem back_fit {st : Stp} {ts bs : List Tr} (hf : st.Fit) (hb : st.beside ts = some bs) (hk : knotsOf ts ≤ 900) : (st.back ((bs.drop (st.path.getLastD 0).toNat).take st.many.toNat)).Fit := by
  refine fold_goal fun Zg hZg => ?_
  obtain ⟨hpe, hd, hi0, hn0, hle⟩ := beside_some hb
  refine hZg ?_
  clear hZg Zg
  have hl : ((bs.drop (st.path.getLastD 0).toNat).take st.many.toNat).length = st.many.toNat := by rw [List.length_take, List.length_drop]; omega
  have h1 := mid_knots bs (st.path.getLastD 0).toNat st.many.toNat
  have h2 := instead_knots st ((bs.drop (st.path.getLastD 0).toNat).take st.many.toNat)
  have h3 := down_knots _ _ _ hd
  have h4 := length_le_knots (st.instead ((bs.drop (st.path.getLastD 0).toNat).take st.many.toNat))
  refine ⟨by rw [back_path]; exact hf.1, by rw [back_path]; exact hf.2.1, ?_⟩
  rw [back_many hl]
  exact small_le (by omega)
theorem backs_fit : ∀ (sts : List Stp) (ts cs : List Tr), runS sts ts = some cs → (∀ st ∈ sts, st.Fit) → knotsOf ts + sts.length ≤ 900 → ∀ st ∈ backsS sts ts, st.Fit
  | [], ts, cs, _, _, _, st, h => nomatch h
  | s :: r, ts, cs, h, hf, hk, st, hm => by
    rw [runS] at h
    rw [backsS] at hm
    cases e : s.beside ts with
    | none => rw [e] at h; cases h
    | some bs =>
      rw [e] at h hm
      rw [List.length_cons] at hk
      rcases List.mem_cons.mp hm with q | q
      · subst q
        exact back_fit (hf s (List.mem_cons_self ..)) e (by omega)
      · have h2 := row_knots e
        exact backs_fit r _ cs h (fun x hx => hf x (List.mem_cons_of_mem _ hx)) (by omega) st q
/-- a cut at a hundred or more can't be done -/
theorem run_bad {sts : List Stp} {ts cs : List Tr} {n : Nat} {m : Int} (h : runS sts ts = some cs) (hk : knotsOf ts + sts.length < 100) (hm : 0 ≤ m) : runS (sts.take n ++ [.cut [100 + m]] ++ sts.drop n) ts = none := by
  rw [runS_app, runS_app]
  cases e : runS (sts.take n) ts with
  | none => rfl
  | some us =>
    have h1 := run_knots _ _ _ e
    have h2 := length_le_knots us
    have h3 : (sts.take n).length ≤ sts.length := by rw [List.length_take]; omega
    have e2 : (Stp.cut [100 + m]).beside us = none := by
      unfold Stp.beside
      rw [if_neg (by show ¬ ([100 + m] : List Int) = []; simp)]
      show (down us []).bind _ = none
      rw [down, Option.bind_some, if_pos]
      right; right
      show (us.length : Int) < (100 + m) + 1
      omega
    rw [Option.bind_some, runS, e2]
    rfl
section
variable {P : Program} {w : World} {K : PySem.W.Frag} {mg : Str → Option Value} {base : Heap}
/-! ### law -/
noncomputable def spLaw (K : PySem.W.Frag) : Sp := fun vs H Q _ => ∃ (a : Addr) (ns : List Int), vs = [.ref a] ∧ SqL K H a (ns.map V.int) ∧ ns.length ≤ 63 ∧ ∀ H', Q (.bl true) H'
theorem scLaw : FnScope ["_law_script", "_law_row", "_law_last", "_law_steps", "_law_copied", "_law_handed", "_law_found", "_law_more", "_law_seed", "_law_half", "_law_bad", "_law_way"] ["_law_script"] (defScope sLaw) := ⟨rfl, rfl, rfl, by decide +kernel, rfl, by decide +kernel, by decide +kernel⟩
theorem ok_law {CN : Addr} {f : Addr} {fd : FuncData} (F : Fun K "law" "law" sLaw f fd) (T : Txt mg) (F_drawn : Ok1 P w K mg base 5 "_law_drawn_row" ["_law_cells"] spDrawn) (F_wandered : Ok1 P w K mg base 9 "_law_wandered" ["_law_row", "_law_cells"] spWandered)
    (F_behind : OkR P w K mg base 13 "behind" ["row", "steps"] (spBehind CN)) (F_turned : OkR P w K mg base 13 "turned" ["row", "steps"] (spTurned CN)) (F_isrow : Ok1 P w K mg base 5 "_law_is_row" ["_law_found"] spIsRow) (F_are : Ok1 P w K mg base 5 "_law_are_steps" ["_law_found"] spAre)
    (F_so : Ok1 P w K mg base 5 "_law_so" ["_law_found", "_law_due"] spSo) (F_any : Ok1 P w K mg base 3 "_law_any" ["_law_cell"] spAny) (F_refuses : Ok1 P w K mg base 15 "_law_refuses" ["_law_way", "_law_row", "_law_steps"] spRefuses)
    (F_due : Ok1 P w K mg base 7 "_law_turned_due" ["_law_row", "_law_steps"] spDue) (F_walked : Ok1 P w K mg base 7 "_law_walked" ["_law_row", "_law_steps"] spWalked) : FnOk P w K mg base CX0 17 f fd ["_law_script"] (spLaw K) := by
  refine F.ok scLaw (fun vs H Q E h => ?_) (fun cdv A outer s H vs Q E hr h => ?_)
  · refine fold_goal fun Zg hZg => ?_
    obtain ⟨a, ns, rfl, _⟩ := h
    refine hZg ?_
    clear hZg Zg
    rfl
  · refine fold_goal fun Zg hZg => ?_
    obtain ⟨a, ns, rfl, hS, hlen, k⟩ := h
    refine hZg ?_
    clear hZg Zg
    have nd := scLaw.nd
    have hu := hr.units0
    have big := line_big
    refine ⟨_, (pss_cons (ps_set (i := 1) nd rfl (Or.inl rfl) (pe_fn F_drawn (hr.mono (by decide)) rfl (pa_cons (pe_slice sl_list (pv 0) po_none (po_some pe_int)) pa_nil)))
      (pss_cons (ps_asg (pe_fn F_wandered (hr.mono (by decide)) rfl (pa_cons (pv 1) (pa_cons (pe_slice sl_list (pv 0) (po_some pe_int) (po_some pe_int)) pa_nil))) (pg_tup rfl (pgs_cons (pg_name (i := 2) nd rfl (Or.inl rfl)) (pgs_cons (pg_name (i := 3) nd rfl (Or.inl rfl)) pgs_nil))))
      (pss_cons (ps_setComp (k := 4) nd rfl (Or.inl rfl) (N := ["_law_step"]) (g := gName 0) (te := teCopy K) rfl (pi_list (pv 3)) (by decide +kernel) (by decide +kernel) rfl (by decide +kernel) (fun C s2 H2 fp => pg_name (i := 0) nd_step rfl (Or.inl rfl) (.inr rfl))
        (fun C s2 H2 fp => pe_op op_catT (pe_op op_catT (pe_slice sl_tup (pv 0) po_none (po_some pe_int)) (pe_tup (pa_cons (pe_callTy call_list_of rfl T.list bt_list (pa_cons (pe_ix ix_tup (pv 0) pe_int (fun _ _ => rfl)) pa_nil)) pa_nil))) (pe_slice sl_tup (pv 0) (po_some pe_int) po_none)))
      (pss_cons (ps_set (i := 5) nd rfl (Or.inl rfl) (pe_lst (pa_cons (pe_callTy call_list_of rfl T.list bt_list (pa_cons (pv 1) pa_nil)) (pa_cons (pv 4) pa_nil))))
      (pss_cons (ps_set (i := 6) nd rfl (Or.inl rfl) (pe_fnR F_behind passR0 (hr.mono (by decide)) rfl (pa_cons (pe_ix ix_list (pv 5) pe_int (fun _ _ => rfl)) (pa_cons (pe_ix ix_list (pv 5) pe_int (fun _ _ => rfl)) pa_nil))))
      (pss_cons (ps_if (PW.pt (pw_or (pt_not (pt_val (pe_fn F_isrow (hr.mono (by decide)) rfl (pa_cons (pv 6) pa_nil)))) (pw_or1 (pt_cmpR (op_neRow hr) (pv 6) (pv 2) (nomark _)))))
        (pss_one (ps_ret pe_bl))
        pss_nil)
      (pss_cons (ps_set (i := 7) nd rfl (Or.inl rfl) (pe_fnR F_turned passR0 (hr.mono (by decide)) rfl (pa_cons (pe_ix ix_list (pv 5) pe_int (fun _ _ => rfl)) (pa_cons (pe_ix ix_list (pv 5) pe_int (fun _ _ => rfl)) pa_nil))))
      (pss_cons (ps_if (PW.pt (pw_or (pt_not (pt_val (pe_fn F_are (hr.mono (by decide)) rfl (pa_cons (pv 7) pa_nil)))) (pw_or1 (pt_cmpR op_ne (pe_callB call_len_seq rfl T.len bt_len (pa_cons (pv 7) pa_nil)) (pe_callB call_len_seq rfl T.len bt_len (pa_cons (pv 3) pa_nil)) (nomark _)))))
        (pss_one (ps_ret pe_bl))
        pss_nil)
      (pss_cons (ps_if (pt_not (pt_val (pe_fn F_so (hr.mono (by decide)) rfl (pa_cons (pv 5) (pa_cons (pe_lst (pa_cons (pv 1) (pa_cons (pv 3) pa_nil))) pa_nil)))))
        (pss_one (ps_ret pe_bl))
        pss_nil)
      (pss_cons (ps_set (i := 8) nd rfl (Or.inl rfl) (pe_callB call_abs rfl T.abs bt_abs (pa_cons (pe_fn F_any (hr.mono (by decide)) rfl (pa_cons (pe_callB (call_sum rfl) rfl T.sum bt_sum (pa_cons (pe_slice sl_list (pv 0) po_none (po_some pe_int)) pa_nil)) pa_nil)) pa_nil)))
      (pss_cons (ps_set (i := 9) nd rfl (Or.inl rfl) (pe_op op_mod (pv 8) (pe_op op_add (pe_callB call_len_seq rfl T.len bt_len (pa_cons (pv 3) pa_nil)) pe_int)))
      (pss_cons (ps_set (i := 10) nd rfl (Or.inl rfl) (pe_op op_cat (pe_op op_cat (pe_slice sl_list (pv 3) po_none (po_some (pv 9))) (pe_lst (pa_cons (pe_tup (pa_cons pe_str (pa_cons (pe_lst (pa_cons (pe_op op_add pe_int (pv 8)) pa_nil)) pa_nil))) pa_nil))) (pe_slice sl_list (pv 3) (po_some (pv 9)) po_none)))
      (pss_cons (ps_for PassesOwn.never rfl (pi_range1 rfl T.range (pa_cons pe_int pa_nil)) (pg_name (i := 11) nd rfl (Or.inl rfl))
        (pss_one (ps_if (pt_not (pt_val (pe_fn F_refuses (hr.mono (by decide)) rfl (pa_cons (pv 11) (pa_cons (pv 1) (pa_cons (pv 10) pa_nil))))))
          (pss_one (ps_ret pe_bl))
          pss_nil)))
      (pss_one (ps_ret (pe_and (pe_fn F_so (hr.mono (by decide)) rfl (pa_cons (pv 7) (pa_cons (pe_fn F_due (hr.mono (by decide)) rfl (pa_cons (pv 1) (pa_cons (pv 3) pa_nil))) pa_nil))) (pe_one (pe_cmpR (op_eqRow hr) (pe_fn F_walked (hr.mono (by decide)) rfl (pa_cons (pv 2) (pa_cons (pv 7) pa_nil))) (pv 1) (nomark _))))))))))))))))))), ?_⟩
    -- row
    try dsimp only
    refine seq_gen fun Ra hna hra => ?_
    refine ⟨_, rfl, _, rfl, a, _, rfl, hS, fun c hc => ?_⟩
    obtain ⟨cells, ec, hcl⟩ : ∃ cells : List Int, cutV (ns.map V.int) none (some 5) = cells.map V.int ∧ cells.length ≤ 5 := by
      refine ⟨ns.take 5, ?_, by rw [List.length_take]; omega⟩
      rw [List.map_take]
      exact cut_to _ 5
    rw [ec]
    refine ⟨_, c, cells, rfl, Same.refl _, upd_same, by omega, fun G2 H2 r ts x2 rr hk hw => ?_⟩
    have s2 : Same H H2 := (same_upd hc).trans x2.h
    have r2 : Rep H2 r (rowD ts) := rr.mono x2.gh
    have hk5 : knotsOf ts ≤ 5 := by omega
    clear x2 rr hk
    -- last, steps
    refine hna _ _ ?_
    clear hna hra Ra
    try dsimp only
    refine seq_gen fun Rb hnb hrb => ?_
    refine ⟨_, rfl, _, rfl, _, rfl, _, rfl, a, _, rfl, s2.seq hS, fun c2 hc2 => ?_⟩
    obtain ⟨cells2, ec2, hcl2⟩ : ∃ cells : List Int, cutV (ns.map V.int) (some 5) (some 17) = cells.map V.int ∧ cells.length ≤ 12 := by
      refine ⟨(ns.drop (min 5 ns.length)).take (min 17 ns.length - min 5 ns.length), ?_, ?_⟩
      · unfold cutV
        have e1 : HT.sIx (ns.map V.int).length 0 (some 5) = min 5 ns.length := by rw [List.length_map]; exact HT.sIx_nat _ _ 5
        have e2 : HT.sIx (ns.map V.int).length (ns.map V.int).length (some 17) = min 17 ns.length := by rw [List.length_map]; exact HT.sIx_nat _ _ 17
        rw [e1, e2, List.map_take, List.map_drop]
      · rw [List.length_take]; omega
    rw [ec2]
    refine ⟨_, r, c2, ts, cells2, rfl, Same.refl _, r2.mono (same_upd hc2), upd_same, by omega, by omega, fun G3 H3 rt cs sts x3 rrt hrun hfit hsl hkc => ?_⟩
    have s3 : Same H2 H3 := (same_upd hc2).trans x3.h
    have r3 : Rep H3 r (rowD ts) := r2.mono s3
    have hS3 := (s2.trans s3).seq hS
    have rt3 := rrt.mono x3.gh
    clear x3 rrt
    cases rt3 with
    | @tup ta _ _ hta rta =>
    cases rta with
    | @cons lv _ _ _ rl rta =>
    cases rta with
    | @cons sv _ _ _ rs rta =>
    cases rta
    refine ⟨ta, [lv, sv], rfl, SqT.of hta, rfl, _, _, rfl, _, _, rfl, rfl, ?_⟩
    have hsts : sts.length ≤ 12 := by omega
    have hkcs := run_knots _ _ _ hrun
    -- copied
    refine hnb _ _ ?_
    clear hnb hrb Rb
    try dsimp only
    refine seq_gen fun Rz hnz hrz => ?_
    unfold tAsg
    try dsimp only
    refine copy_all (u := sv) (j := 3) (by rfl) (Same.refl _) rs (by omega) fun G4 H4 y x4 ry => ?_
    have s4 : Same H3 H4 := x4.h
    have ry4 : Rep H4 y (.lst (sts.map Stp.d)) := ry.mono x4.gh
    clear x4 ry
    refine fold_goal fun Zg hZg => ?_
    obtain ⟨ra, rvs, rfl, hra, rts⟩ := r3.row
    refine hZg ?_
    clear hZg Zg
    -- handed
    refine hnz _ _ ?_
    clear hnz hrz Rz
    try dsimp only
    refine seq_gen fun Rc hnc hrc => ?_
    refine ⟨_, rfl, ra, rvs, rfl, .inl (SqL.of (s4 _ _ hra)), fun l1 g1 => ⟨_, rfl, by show 2 ≤ sizeLine; decide, fun l2 g2 => ?_⟩⟩
    have s5 : Same H4 (upd (upd H4 l1 (.lst rvs)) l2 (.lst [.ref l1, y])) := (same_upd g1).trans (same_upd g2)
    have hl1 : upd (upd H4 l1 (.lst rvs)) l2 (.lst [.ref l1, y]) l1 = some (.lst rvs) := same_upd g2 _ _ upd_same
    have hl2 : upd (upd H4 l1 (.lst rvs)) l2 (.lst [.ref l1, y]) l2 = some (.lst [.ref l1, y]) := upd_same
    generalize upd (upd H4 l1 (.lst rvs)) l2 (.lst [.ref l1, y]) = H5 at *
    have s35 := s4.trans s5
    have rh5 : Rep H5 (.ref l1) (rowD ts) := .lst hl1 (rts.mono s35)
    have ry5 := ry4.mono s5
    -- found = behind(..)
    refine hnc _ _ ?_
    clear hnc hrc Rc
    try dsimp only
    refine seq_gen fun Rd hnd hrd => ?_
    refine ⟨_, rfl, l2, _, _, _, rfl, rfl, SqL.of hl2, atI_nat (j := 0) rfl, _, rfl, l2, _, _, _, rfl, rfl, SqL.of hl2, atI_nat (j := 1) rfl, H5, _, _, ts, sts, rfl, Same.refl _, rh5, ry5, hfit, by omega, fun cs' hcs G6 H6 rb x6 rrb => ?_, fun hn => by rw [hrun] at hn; cases hn⟩
    rw [hrun] at hcs
    cases hcs
    have s6 : Same H5 H6 := x6.h
    have rb6 : Rep H6 rb (rowD cs) := rrb.mono x6.gh
    clear x6 rrb
    have rl6 : Rep H6 lv (rowD cs) := rl.mono (s35.trans s6)
    refine hnd _ _ ?_
    clear hnd hrd Rd
    try dsimp only
    refine seq_gen fun Re hne hre => ?_
    refine ⟨_, rfl, H6, rb, cs, rfl, Same.refl _, rb6, by omega, fun H7 s7 => ⟨_, rfl, iteF ?_⟩⟩
    refine ⟨_, rfl, _, rfl, H7, cs, cs, Same.refl _, rb6.mono s7, rl6.mono s7, by omega, (fun _ => ⟨_, rfl, iteF ?_⟩), (fun z => absurd rfl z)⟩
    have s57 := s6.trans s7
    -- more = turned(..)
    refine hne _ _ ?_
    clear hne hre Re
    try dsimp only
    refine seq_gen fun Rf hnf hrf => ?_
    refine ⟨_, rfl, l2, _, _, _, rfl, rfl, SqL.of (s57 _ _ hl2), atI_nat (j := 0) rfl, _, rfl, l2, _, _, _, rfl, rfl, SqL.of (s57 _ _ hl2), atI_nat (j := 1) rfl, H7, _, _, ts, sts, rfl, Same.refl _, rh5.mono s57, ry5.mono s57, hfit, by omega, fun cs' hcs G8 H8 rm x8 rrm => ?_, fun hn => by rw [hrun] at hn; cases hn⟩
    clear hcs
    have s8 : Same H7 H8 := x8.h
    have rm8 : Rep H8 rm (.lst ((backsS sts ts).reverse.map Stp.d)) := rrm.mono x8.gh
    clear x8 rrm
    have s58 := s57.trans s8
    have hbl := backs_len _ _ _ hrun
    have hbf : ∀ st ∈ (backsS sts ts).reverse, st.Fit := fun st hst => backs_fit _ _ _ hrun hfit (by omega) st (List.mem_reverse.mp hst)
    refine hnf _ _ ?_
    clear hnf hrf Rf
    try dsimp only
    refine seq_gen fun Rg hng hrg => ?_
    refine ⟨_, rfl, H8, rm, _, rfl, Same.refl _, rm8, fun H9 s9 => ⟨_, rfl, iteF ?_⟩⟩
    have s59 := s58.trans s9
    have s39 := s35.trans s59
    cases rm8 with
    | @lst ma mvs _ hma rms =>
    cases rs with
    | @lst sa svs _ hsa rss =>
    have hml := rms.length
    have hsvl := rss.length
    rw [List.length_map, List.length_reverse, hbl] at hml
    rw [List.length_map] at hsvl
    refine ⟨_, rfl, ma, mvs, rfl, .inl (SqL.of (s9 _ _ hma)), _, rfl, sa, svs, rfl, .inl (SqL.of (s39 _ _ hsa)), rfl, _, rfl, iteNS (by rw [hml, hsvl]) ?_⟩
    -- so(handed, [row, steps])
    refine hng _ _ ?_
    clear hng hrg Rg
    try dsimp only
    refine seq_gen fun Rh hnh hrh => ?_
    refine ⟨_, rfl, _, rfl, _, rfl, (by show 2 ≤ sizeLine; decide), fun l3 g3 => ?_⟩
    have s10 : Same H9 (upd H9 l3 (.lst [.ref ra, .ref sa])) := same_upd g3
    have hl3 : upd H9 l3 (.lst [.ref ra, .ref sa]) l3 = some (.lst [.ref ra, .ref sa]) := upd_same
    generalize upd H9 l3 (.lst [.ref ra, .ref sa]) = H10 at *
    have s510 := s59.trans s10
    have s310 := s35.trans s510
    refine ⟨H10, _, _, .lst [rowD ts, .lst (sts.map Stp.d)], rfl, Same.refl _, .lst (s510 _ _ hl2) (.cons (rh5.mono s510) (.cons (ry5.mono s510) .nil)), .lst hl3 (.cons (.lst (s310 _ _ hra) (rts.mono s310)) (.cons (.lst (s310 _ _ hsa) (rss.mono s310)) .nil)), ?_, fun H11 s11 => ⟨_, rfl, iteF ?_⟩⟩
    · have := steps_size hfit
      rw [D.size, sizes, sizes, sizes, rowD_size, D.size]
      omega
    have s311 := s310.trans s11
    -- seed
    refine hnh _ _ ?_
    clear hnh hrh Rh
    try dsimp only
    refine seq_gen fun Ri hni hri => ?_
    refine ⟨_, rfl, _, rfl, a, _, rfl, s311.seq hS3, fun c3 hc3 => ?_⟩
    rw [show cutV (ns.map V.int) none (some 4) = (ns.take 4).map V.int by rw [List.map_take]; exact cut_to _ 4]
    refine ⟨c3, ns.take 4, rfl, SqL.of upd_same, (ns.take 4).sum, rfl, fun H12 m s12 hm => ⟨m, rfl, ?_⟩⟩
    have s312 := (s311.trans (same_upd hc3)).trans s12
    have s812 := ((s9.trans s10).trans s11).trans ((same_upd hc3).trans s12)
    have s512 := s58.trans s812
    obtain ⟨n, hn, hnb⟩ : ∃ n : Nat, (if m < 0 then -m else m) = (n : Int) ∧ n < 10 ^ 59 := by
      refine ⟨m.natAbs, ?_, hm⟩
      split <;> omega
    rw [hn]
    -- half
    refine hni _ _ ?_
    clear hni hri Ri
    try dsimp only
    refine seq_gen fun Rj hnj hrj => ?_
    have hpos : (0 : Int) < (svs.length : Int) + 1 := by omega
    refine ⟨_, rfl, _, rfl, sa, svs, rfl, .inl (SqL.of (s312 _ _ hsa)), _, _, rfl, rfl, _, _, rfl, rfl, hpos, ?_⟩
    obtain ⟨hf, ehf⟩ : ∃ hf : Nat, (n : Int) % ((svs.length : Int) + 1) = (hf : Int) := ⟨((n : Int) % ((svs.length : Int) + 1)).toNat, by have := Int.emod_nonneg (n : Int) (show (svs.length : Int) + 1 ≠ 0 by omega); omega⟩
    dsimp only
    rw [ehf]
    -- bad
    refine hnj _ _ ?_
    clear hnj hrj Rj
    try dsimp only
    refine seq_gen fun Rk hnk hrk => ?_
    refine ⟨_, rfl, _, rfl, _, rfl, sa, svs, rfl, SqL.of (s312 _ _ hsa), fun b1 k1 => ?_⟩
    rw [cut_to]
    refine ⟨_, rfl, _, _, rfl, rfl, (by show 1 ≤ sizeLine; decide), fun b2 k2 => ⟨by show 2 ≤ sizeLine; decide, fun b3 k3 => ⟨by show 1 ≤ sizeLine; decide, fun b4 k4 => ?_⟩⟩⟩
    have t14 : Same H12 (upd (upd (upd (upd H12 b1 (.lst (svs.take hf))) b2 (.lst [.int (100 + (n : Int))])) b3 (.tup [.str (Str.ofString "cut"), .ref b2])) b4 (.lst [.ref b3])) := (((same_upd k1).trans (same_upd k2)).trans (same_upd k3)).trans (same_upd k4)
    have h1 : upd (upd (upd (upd H12 b1 (.lst (svs.take hf))) b2 (.lst [.int (100 + (n : Int))])) b3 (.tup [.str (Str.ofString "cut"), .ref b2])) b4 (.lst [.ref b3]) b1 = some (.lst (svs.take hf)) := same_upd k4 _ _ (same_upd k3 _ _ (same_upd k2 _ _ upd_same))
    have h2 : upd (upd (upd (upd H12 b1 (.lst (svs.take hf))) b2 (.lst [.int (100 + (n : Int))])) b3 (.tup [.str (Str.ofString "cut"), .ref b2])) b4 (.lst [.ref b3]) b2 = some (.lst [.int (100 + (n : Int))]) := same_upd k4 _ _ (same_upd k3 _ _ upd_same)
    have h3 : upd (upd (upd (upd H12 b1 (.lst (svs.take hf))) b2 (.lst [.int (100 + (n : Int))])) b3 (.tup [.str (Str.ofString "cut"), .ref b2])) b4 (.lst [.ref b3]) b3 = some (.tup [.str (Str.ofString "cut"), .ref b2]) := same_upd k4 _ _ upd_same
    have h4 : upd (upd (upd (upd H12 b1 (.lst (svs.take hf))) b2 (.lst [.int (100 + (n : Int))])) b3 (.tup [.str (Str.ofString "cut"), .ref b2])) b4 (.lst [.ref b3]) b4 = some (.lst [.ref b3]) := upd_same
    generalize upd (upd (upd (upd H12 b1 (.lst (svs.take hf))) b2 (.lst [.int (100 + (n : Int))])) b3 (.tup [.str (Str.ofString "cut"), .ref b2])) b4 (.lst [.ref b3]) = H13 at *
    have htl : (svs.take hf).length ≤ svs.length := by rw [List.length_take]; omega
    refine ⟨b1, b4, _, _, rfl, rfl, h1, h4, (by show (svs.take hf).length + 1 ≤ sizeLine; omega), fun b5 k5 => ?_⟩
    have s313 := (s312.trans t14).trans (same_upd (o := .lst (svs.take hf ++ [.ref b3])) k5)
    refine ⟨_, rfl, _, rfl, _, rfl, sa, svs, rfl, SqL.of (s313 _ _ hsa), fun b6 k6 => ?_⟩
    rw [cut_from]
    refine ⟨b5, b6, _, _, rfl, rfl, same_upd k6 _ _ upd_same, upd_same, ?_, fun b7 k7 => ?_⟩
    · have : (svs.drop hf).length ≤ svs.length := by rw [List.length_drop]; omega
      rw [List.length_append, List.length_singleton]
      omega
    have t17 : Same H13 (upd (upd (upd H13 b5 (.lst (svs.take hf ++ [.ref b3]))) b6 (.lst (svs.drop hf))) b7 (.lst (svs.take hf ++ [.ref b3] ++ svs.drop hf))) := ((same_upd k5).trans (same_upd k6)).trans (same_upd k7)
    have h7 : upd (upd (upd H13 b5 (.lst (svs.take hf ++ [.ref b3]))) b6 (.lst (svs.drop hf))) b7 (.lst (svs.take hf ++ [.ref b3] ++ svs.drop hf)) b7 = some (.lst (svs.take hf ++ [.ref b3] ++ svs.drop hf)) := upd_same
    generalize upd (upd (upd H13 b5 (.lst (svs.take hf ++ [.ref b3]))) b6 (.lst (svs.drop hf))) b7 (.lst (svs.take hf ++ [.ref b3] ++ svs.drop hf)) = H14 at *
    have t12 := t14.trans t17
    have s314 := s312.trans t12
    have s814 := s812.trans t12
    have rbad : Rep H14 (.ref b7) (.lst ((sts.take hf ++ [Stp.cut [100 + (n : Int)]] ++ sts.drop hf).map Stp.d)) := by
      refine .lst h7 ?_
      rw [List.map_append, List.map_append, List.map_take, List.map_drop]
      exact (((rss.mono s314).take hf).append (.cons (.tup (t17 _ _ h3) (.cons (.str _) (.cons (.lst (t17 _ _ h2) (ints_reps [100 + (n : Int)])) .nil))) .nil)).append ((rss.mono s314).drop hf)
    have hbad : runS (sts.take hf ++ [Stp.cut [100 + (n : Int)]] ++ sts.drop hf) ts = none := run_bad hrun (by omega) (by omega)
    have hfb : ∀ st ∈ sts.take hf ++ [Stp.cut [100 + (n : Int)]] ++ sts.drop hf, st.Fit := fun st hst => by
      rcases List.mem_append.mp hst with q | q
      · rcases List.mem_append.mp q with q | q
        · exact hfit st (List.mem_of_mem_take q)
        · rw [show st = Stp.cut [100 + (n : Int)] by simpa using q]
          refine ⟨by show 1 ≤ 1000; decide, fun b hb => ?_, by show Small 1; unfold Small; decide⟩
          rw [show b = 100 + (n : Int) by simpa [Stp.path] using hb]
          unfold Small
          have b1 : (10 : Nat) ^ 59 + 100 < 10 ^ 100 := by decide
          have b2 : (100 + (n : Int)).natAbs = 100 + n := by omega
          rw [b2]
          omega
      · exact hfit st (List.mem_of_mem_drop q)
    have hlb : knotsOf ts + (sts.take hf ++ [Stp.cut [100 + (n : Int)]] ++ sts.drop hf).length ≤ 800 := by
      rw [List.length_append, List.length_append, List.length_take, List.length_drop, List.length_singleton]
      omega
    -- for way in range(2)
    refine hnk _ _ ?_
    clear hnk hrk Rk
    try dsimp only
    refine seq_gen fun Rl hnl hrl => ?_
    refine ⟨2, rfl, by decide, by decide, for_range (n := 2)
      (fun i σ H2 => ∃ z : Option V, σ = [some (.ref a), some (.ref ra), some lv, some (.ref sa), some y, some (.ref l2), some rb, some (.ref ma), some (.int (n : Int)), some (.int (hf : Int)), some (.ref b7), z] ∧ Same H14 H2) ⟨none, rfl, Same.refl _⟩ ?_ ?_⟩
    · intro i σ H15 hi hZp
      refine fold_goal fun Zg hZg => ?_
      obtain ⟨z, rfl, s15⟩ := hZp
      refine hZg ?_
      clear hZg Zg
      have s315 := s314.trans s15
      exact ⟨_, rfl, _, rfl, _, rfl, H15, _, _, _, ts, _, rfl, Same.refl _, .lst (s315 _ _ hra) (rts.mono s315), rbad.mono s15, hfb, hlb, hbad, fun H16 s16 => ⟨_, rfl, iteF ⟨_, rfl, s15.trans s16⟩⟩⟩
    · intro σ H15 hZp
      refine fold_goal fun Zg hZg => ?_
      obtain ⟨z, rfl, s15⟩ := hZp
      refine hZg ?_
      clear hZg Zg
      refine hnl _ _ ?_
      clear hnl hrl Rl
      have s315 := s314.trans s15
      have s815 := s814.trans s15
      have hsome : (runS sts ts).isSome = true := by rw [hrun]; rfl
      refine ⟨_, rfl, _, rfl, _, rfl, H15, _, _, ts, sts, rfl, Same.refl _, .lst (s315 _ _ hra) (rts.mono s315), .lst (s315 _ _ hsa) (rss.mono s315), hfit, by omega, hsome, fun G16 H16 rd x16 rrd => ?_⟩
      have s16 : Same H15 H16 := x16.h
      have rd16 := rrd.mono x16.gh
      clear x16 rrd
      have s816 := s815.trans s16
      have s316 := s315.trans s16
      have rm16 : Rep H16 (.ref ma) (.lst ((backsS sts ts).reverse.map Stp.d)) := .lst (s816 _ _ hma) (rms.mono s816)
      refine ⟨H16, _, _, .lst ((backsS sts ts).reverse.map Stp.d), rfl, Same.refl _, rm16, rd16, ?_, fun H17 s17 => ⟨_, rfl, iteT ?_⟩⟩
      · have := steps_size hbf
        rw [List.length_reverse, hbl] at this
        rw [D.size]
        omega
      have s317 := s316.trans s17
      refine ⟨_, rfl, _, rfl, H17, _, _, cs, _, rfl, Same.refl _, rl.mono s317, rm16.mono s17, hbf, ?_, ?_, fun us hus G18 H18 rw' x18 rrw => ?_⟩
      · rw [List.length_reverse, hbl]
        omega
      · rw [runS_back _ _ _ hrun]
        rfl
      rw [runS_back _ _ _ hrun] at hus
      cases hus
      have s318 := s317.trans x18.h
      exact ⟨_, rfl, H18, ts, ts, Same.refl _, rrw.mono x18.gh, .lst (s318 _ _ hra) (rts.mono s318), by omega, (fun _ => k _), (fun z => absurd rfl z)⟩
end
end K3
namespace K3
open PySem L2 TT
theorem all_mk {l : PySem.W.OpenLaw} {w : World} {K : PySem.W.Frag} {h : Heap} {mg : Str → Option Value} {fa f1 f2 f3 f4 f5 f6 f7 f8 f9 f10 f11 f12 f13 f14 f15 f16 f17 f18 f19 f20 f21 f22 f23 f24 f25 f26 f27 f28 f29 : Addr} (X : K.In h) (G : h.Ns mainGlobals mg) (hfa : mg "law" = some (.ref fa))
    {od1 an1 od2 an2 od3 an3 od4 an4 od5 an5 od6 an6 od7 an7 od8 an8 od9 an9 od10 an10 od11 an11 od12 an12 od13 an13 od14 an14 od15 an15 od16 an16 od17 an17 od18 an18 od19 an19 od20 an20 od21 an21 od22 an22 od23 an23 od24 an24 od25 an25 od26 an26 od27 an27 od28 an28 od29 an29 : Option Addr} {sl1 sl2 sl3 sl4 sl5 sl6 sl7 sl8 sl9 sl10 sl11 sl12 sl13 sl14 sl15 sl16 sl17 sl18 sl19 sl20 sl21 sl22 sl23 sl24 sl25 sl26 sl27 sl28 sl29 : Array (Option Value)} {oc1 kV1 dc1 pm1 cd1 ct1 oc2 kV2 dc2 pm2 cd2 ct2 oc3 kV3 dc3 pm3 cd3 ct3 oc4 kV4 dc4 pm4 cd4 ct4 oc5 kV5 dc5 pm5 cd5 ct5 oc6 kV6 dc6 pm6 cd6 ct6 oc7 kV7 dc7 pm7 cd7 ct7 oc8 kV8 dc8 pm8 cd8 ct8 oc9 kV9 dc9 pm9 cd9 ct9 oc10 kV10 dc10 pm10 cd10 ct10 oc11 kV11 dc11 pm11 cd11 ct11 oc12 kV12 dc12 pm12 cd12 ct12 oc13 kV13 dc13 pm13 cd13 ct13 oc14 kV14 dc14 pm14 cd14 ct14 oc15 kV15 dc15 pm15 cd15 ct15 oc16 kV16 dc16 pm16 cd16 ct16 oc17 kV17 dc17 pm17 cd17 ct17 oc18 kV18 dc18 pm18 cd18 ct18 oc19 kV19 dc19 pm19 cd19 ct19 oc20 kV20 dc20 pm20 cd20 ct20 oc21 kV21 dc21 pm21 cd21 ct21 oc22 kV22 dc22 pm22 cd22 ct22 oc23 kV23 dc23 pm23 cd23 ct23 oc24 kV24 dc24 pm24 cd24 ct24 oc25 kV25 dc25 pm25 cd25 ct25 oc26 kV26 dc26 pm26 cd26 ct26 oc27 kV27 dc27 pm27 cd27 ct27 oc28 kV28 dc28 pm28 cd28 ct28 oc29 kV29 dc29 pm29 cd29 ct29 : Value}
    (a1 : PySem.W.nsIn K mainGlobals "mark_of" = some (some (.ref f1))) (l1 : K.lookup f1 = some ⟨oc1, od1, .func (PySem.W.fnOf "mark_of" "mark_of" (defArgs sMark) (defBody sMark) (defScope sMark) .none kV1 dc1 pm1 an1 cd1 ct1), sl1⟩) (c1 : PySem.W.codeIn K cd1 "mark_of" = true) (k1 : PySem.W.keepIn K (.ref f1) = true)
    (a2 : PySem.W.nsIn K mainGlobals "trees_under" = some (some (.ref f2))) (l2 : K.lookup f2 = some ⟨oc2, od2, .func (PySem.W.fnOf "trees_under" "trees_under" (defArgs sTU) (defBody sTU) (defScope sTU) .none kV2 dc2 pm2 an2 cd2 ct2), sl2⟩) (c2 : PySem.W.codeIn K cd2 "trees_under" = true) (k2 : PySem.W.keepIn K (.ref f2) = true)
    (a3 : PySem.W.nsIn K mainGlobals "knot" = some (some (.ref f3))) (l3 : K.lookup f3 = some ⟨oc3, od3, .func (PySem.W.fnOf "knot" "knot" (defArgs sKnot) (defBody sKnot) (defScope sKnot) .none kV3 dc3 pm3 an3 cd3 ct3), sl3⟩) (c3 : PySem.W.codeIn K cd3 "knot" = true) (k3 : PySem.W.keepIn K (.ref f3) = true)
    (a4 : PySem.W.nsIn K mainGlobals "levels" = some (some (.ref f4))) (l4 : K.lookup f4 = some ⟨oc4, od4, .func (PySem.W.fnOf "levels" "levels" (defArgs sLevels) (defBody sLevels) (defScope sLevels) .none kV4 dc4 pm4 an4 cd4 ct4), sl4⟩) (c4 : PySem.W.codeIn K cd4 "levels" = true) (k4 : PySem.W.keepIn K (.ref f4) = true)
    (a5 : PySem.W.nsIn K mainGlobals "trees_at" = some (some (.ref f5))) (l5 : K.lookup f5 = some ⟨oc5, od5, .func (PySem.W.fnOf "trees_at" "trees_at" (defArgs sAt) (defBody sAt) (defScope sAt) .none kV5 dc5 pm5 an5 cd5 ct5), sl5⟩) (c5 : PySem.W.codeIn K cd5 "trees_at" = true) (k5 : PySem.W.keepIn K (.ref f5) = true)
    (a6 : PySem.W.nsIn K mainGlobals "with_trees_at" = some (some (.ref f6))) (l6 : K.lookup f6 = some ⟨oc6, od6, .func (PySem.W.fnOf "with_trees_at" "with_trees_at" (defArgs sWith) (defBody sWith) (defScope sWith) .none kV6 dc6 pm6 an6 cd6 ct6), sl6⟩) (c6 : PySem.W.codeIn K cd6 "with_trees_at" = true) (k6 : PySem.W.keepIn K (.ref f6) = true)
    (a7 : PySem.W.nsIn K mainGlobals "leads" = some (some (.ref f7))) (l7 : K.lookup f7 = some ⟨oc7, od7, .func (PySem.W.fnOf "leads" "leads" (defArgs sLeads) (defBody sLeads) (defScope sLeads) .none kV7 dc7 pm7 an7 cd7 ct7), sl7⟩) (c7 : PySem.W.codeIn K cd7 "leads" = true) (k7 : PySem.W.keepIn K (.ref f7) = true)
    (a8 : PySem.W.nsIn K mainGlobals "how_many" = some (some (.ref f8))) (l8 : K.lookup f8 = some ⟨oc8, od8, .func (PySem.W.fnOf "how_many" "how_many" (defArgs sMany) (defBody sMany) (defScope sMany) .none kV8 dc8 pm8 an8 cd8 ct8), sl8⟩) (c8 : PySem.W.codeIn K cd8 "how_many" = true) (k8 : PySem.W.keepIn K (.ref f8) = true)
    (a9 : PySem.W.nsIn K mainGlobals "trees_instead" = some (some (.ref f9))) (l9 : K.lookup f9 = some ⟨oc9, od9, .func (PySem.W.fnOf "trees_instead" "trees_instead" (defArgs sInstead) (defBody sInstead) (defScope sInstead) .none kV9 dc9 pm9 an9 cd9 ct9), sl9⟩) (c9 : PySem.W.codeIn K cd9 "trees_instead" = true) (k9 : PySem.W.keepIn K (.ref f9) = true)
    (a10 : PySem.W.nsIn K mainGlobals "trees_taken" = some (some (.ref f10))) (l10 : K.lookup f10 = some ⟨oc10, od10, .func (PySem.W.fnOf "trees_taken" "trees_taken" (defArgs sTaken) (defBody sTaken) (defScope sTaken) .none kV10 dc10 pm10 an10 cd10 ct10), sl10⟩) (c10 : PySem.W.codeIn K cd10 "trees_taken" = true) (k10 : PySem.W.keepIn K (.ref f10) = true)
    (a11 : PySem.W.nsIn K mainGlobals "done" = some (some (.ref f11))) (l11 : K.lookup f11 = some ⟨oc11, od11, .func (PySem.W.fnOf "done" "done" (defArgs sDone) (defBody sDone) (defScope sDone) .none kV11 dc11 pm11 an11 cd11 ct11), sl11⟩) (c11 : PySem.W.codeIn K cd11 "done" = true) (k11 : PySem.W.keepIn K (.ref f11) = true)
    (a12 : PySem.W.nsIn K mainGlobals "led_back" = some (some (.ref f12))) (l12 : K.lookup f12 = some ⟨oc12, od12, .func (PySem.W.fnOf "led_back" "led_back" (defArgs sLed) (defBody sLed) (defScope sLed) .none kV12 dc12 pm12 an12 cd12 ct12), sl12⟩) (c12 : PySem.W.codeIn K cd12 "led_back" = true) (k12 : PySem.W.keepIn K (.ref f12) = true)
    (a13 : PySem.W.nsIn K mainGlobals "behind" = some (some (.ref f13))) (l13 : K.lookup f13 = some ⟨oc13, od13, .func (PySem.W.fnOf "behind" "behind" (defArgs sBehind) (defBody sBehind) (defScope sBehind) .none kV13 dc13 pm13 an13 cd13 ct13), sl13⟩) (c13 : PySem.W.codeIn K cd13 "behind" = true) (k13 : PySem.W.keepIn K (.ref f13) = true)
    (a14 : PySem.W.nsIn K mainGlobals "turned" = some (some (.ref f14))) (l14 : K.lookup f14 = some ⟨oc14, od14, .func (PySem.W.fnOf "turned" "turned" (defArgs sTurned) (defBody sTurned) (defScope sTurned) .none kV14 dc14 pm14 an14 cd14 ct14), sl14⟩) (c14 : PySem.W.codeIn K cd14 "turned" = true) (k14 : PySem.W.keepIn K (.ref f14) = true)
    (a15 : PySem.W.nsIn K mainGlobals "_law_any_word" = some (some (.ref f15))) (l15 : K.lookup f15 = some ⟨oc15, od15, .func (PySem.W.fnOf "_law_any_word" "_law_any_word" (defArgs sWord) (defBody sWord) (defScope sWord) .none kV15 dc15 pm15 an15 cd15 ct15), sl15⟩) (c15 : PySem.W.codeIn K cd15 "_law_any_word" = true) (k15 : PySem.W.keepIn K (.ref f15) = true)
    (a16 : PySem.W.nsIn K mainGlobals "_law_drawn_row" = some (some (.ref f16))) (l16 : K.lookup f16 = some ⟨oc16, od16, .func (PySem.W.fnOf "_law_drawn_row" "_law_drawn_row" (defArgs sDrawn) (defBody sDrawn) (defScope sDrawn) .none kV16 dc16 pm16 an16 cd16 ct16), sl16⟩) (c16 : PySem.W.codeIn K cd16 "_law_drawn_row" = true) (k16 : PySem.W.keepIn K (.ref f16) = true)
    (a17 : PySem.W.nsIn K mainGlobals "_law_all_paths" = some (some (.ref f17))) (l17 : K.lookup f17 = some ⟨oc17, od17, .func (PySem.W.fnOf "_law_all_paths" "_law_all_paths" (defArgs sAll) (defBody sAll) (defScope sAll) .none kV17 dc17 pm17 an17 cd17 ct17), sl17⟩) (c17 : PySem.W.codeIn K cd17 "_law_all_paths" = true) (k17 : PySem.W.keepIn K (.ref f17) = true)
    (a18 : PySem.W.nsIn K mainGlobals "_law_stepped" = some (some (.ref f18))) (l18 : K.lookup f18 = some ⟨oc18, od18, .func (PySem.W.fnOf "_law_stepped" "_law_stepped" (defArgs sStepped) (defBody sStepped) (defScope sStepped) .none kV18 dc18 pm18 an18 cd18 ct18), sl18⟩) (c18 : PySem.W.codeIn K cd18 "_law_stepped" = true) (k18 : PySem.W.keepIn K (.ref f18) = true)
    (a19 : PySem.W.nsIn K mainGlobals "_law_is_row" = some (some (.ref f19))) (l19 : K.lookup f19 = some ⟨oc19, od19, .func (PySem.W.fnOf "_law_is_row" "_law_is_row" (defArgs sIsRow) (defBody sIsRow) (defScope sIsRow) .none kV19 dc19 pm19 an19 cd19 ct19), sl19⟩) (c19 : PySem.W.codeIn K cd19 "_law_is_row" = true) (k19 : PySem.W.keepIn K (.ref f19) = true)
    (a20 : PySem.W.nsIn K mainGlobals "_law_is_path" = some (some (.ref f20))) (l20 : K.lookup f20 = some ⟨oc20, od20, .func (PySem.W.fnOf "_law_is_path" "_law_is_path" (defArgs sIsPath) (defBody sIsPath) (defScope sIsPath) .none kV20 dc20 pm20 an20 cd20 ct20), sl20⟩) (c20 : PySem.W.codeIn K cd20 "_law_is_path" = true) (k20 : PySem.W.keepIn K (.ref f20) = true)
    (a21 : PySem.W.nsIn K mainGlobals "_law_are_steps" = some (some (.ref f21))) (l21 : K.lookup f21 = some ⟨oc21, od21, .func (PySem.W.fnOf "_law_are_steps" "_law_are_steps" (defArgs sAre) (defBody sAre) (defScope sAre) .none kV21 dc21 pm21 an21 cd21 ct21), sl21⟩) (c21 : PySem.W.codeIn K cd21 "_law_are_steps" = true) (k21 : PySem.W.keepIn K (.ref f21) = true)
    (a22 : PySem.W.nsIn K mainGlobals "_law_walked" = some (some (.ref f22))) (l22 : K.lookup f22 = some ⟨oc22, od22, .func (PySem.W.fnOf "_law_walked" "_law_walked" (defArgs sWalked) (defBody sWalked) (defScope sWalked) .none kV22 dc22 pm22 an22 cd22 ct22), sl22⟩) (c22 : PySem.W.codeIn K cd22 "_law_walked" = true) (k22 : PySem.W.keepIn K (.ref f22) = true)
    (a23 : PySem.W.nsIn K mainGlobals "_law_size" = some (some (.ref f23))) (l23 : K.lookup f23 = some ⟨oc23, od23, .func (PySem.W.fnOf "_law_size" "_law_size" (defArgs sSize) (defBody sSize) (defScope sSize) .none kV23 dc23 pm23 an23 cd23 ct23), sl23⟩) (c23 : PySem.W.codeIn K cd23 "_law_size" = true) (k23 : PySem.W.keepIn K (.ref f23) = true)
    (a24 : PySem.W.nsIn K mainGlobals "_law_wandered" = some (some (.ref f24))) (l24 : K.lookup f24 = some ⟨oc24, od24, .func (PySem.W.fnOf "_law_wandered" "_law_wandered" (defArgs sWandered) (defBody sWandered) (defScope sWandered) .none kV24 dc24 pm24 an24 cd24 ct24), sl24⟩) (c24 : PySem.W.codeIn K cd24 "_law_wandered" = true) (k24 : PySem.W.keepIn K (.ref f24) = true)
    (a25 : PySem.W.nsIn K mainGlobals "_law_refuses" = some (some (.ref f25))) (l25 : K.lookup f25 = some ⟨oc25, od25, .func (PySem.W.fnOf "_law_refuses" "_law_refuses" (defArgs sRefuses) (defBody sRefuses) (defScope sRefuses) .none kV25 dc25 pm25 an25 cd25 ct25), sl25⟩) (c25 : PySem.W.codeIn K cd25 "_law_refuses" = true) (k25 : PySem.W.keepIn K (.ref f25) = true)
    (a26 : PySem.W.nsIn K mainGlobals "_law_any" = some (some (.ref f26))) (l26 : K.lookup f26 = some ⟨oc26, od26, .func (PySem.W.fnOf "_law_any" "_law_any" (defArgs sAny) (defBody sAny) (defScope sAny) .none kV26 dc26 pm26 an26 cd26 ct26), sl26⟩) (c26 : PySem.W.codeIn K cd26 "_law_any" = true) (k26 : PySem.W.keepIn K (.ref f26) = true)
    (a27 : PySem.W.nsIn K mainGlobals "_law_turned_due" = some (some (.ref f27))) (l27 : K.lookup f27 = some ⟨oc27, od27, .func (PySem.W.fnOf "_law_turned_due" "_law_turned_due" (defArgs sDue) (defBody sDue) (defScope sDue) .none kV27 dc27 pm27 an27 cd27 ct27), sl27⟩) (c27 : PySem.W.codeIn K cd27 "_law_turned_due" = true) (k27 : PySem.W.keepIn K (.ref f27) = true)
    (a28 : PySem.W.nsIn K mainGlobals "_law_so" = some (some (.ref f28))) (l28 : K.lookup f28 = some ⟨oc28, od28, .func (PySem.W.fnOf "_law_so" "_law_so" (defArgs sSo) (defBody sSo) (defScope sSo) .none kV28 dc28 pm28 an28 cd28 ct28), sl28⟩) (c28 : PySem.W.codeIn K cd28 "_law_so" = true) (k28 : PySem.W.keepIn K (.ref f28) = true)
    (a29 : PySem.W.nsIn K mainGlobals "law" = some (some (.ref f29))) (l29 : K.lookup f29 = some ⟨oc29, od29, .func (PySem.W.fnOf "law" "law" (defArgs sLaw) (defBody sLaw) (defScope sLaw) .none kV29 dc29 pm29 an29 cd29 ct29), sl29⟩) (c29 : PySem.W.codeIn K cd29 "law" = true) (k29 : PySem.W.keepIn K (.ref f29) = true)
    {CN : Addr} (xN : PySem.W.nsIn K mainGlobals "NoStep" = some (some (.ref CN))) (y1 : PySem.W.excIn K CN veMro "ValueError.__new__" = true) (w1 : PySem.W.exmOne K (.ref CN) (.ref CN) = some true)
    (z_list : PySem.W.nsIn K mainGlobals "list" = some none) (z_tuple : PySem.W.nsIn K mainGlobals "tuple" = some none) (z_len : PySem.W.nsIn K mainGlobals "len" = some none) (z_range : PySem.W.nsIn K mainGlobals "range" = some none) (z_min : PySem.W.nsIn K mainGlobals "min" = some none) (z_abs : PySem.W.nsIn K mainGlobals "abs" = some none) (z_sum : PySem.W.nsIn K mainGlobals "sum" = some none) (z_sorted : PySem.W.nsIn K mainGlobals "sorted" = some none) (z_isinstance : PySem.W.nsIn K mainGlobals "isinstance" = some none) (z_enumerate : PySem.W.nsIn K mainGlobals "enumerate" = some none) (z_str : PySem.W.nsIn K mainGlobals "str" = some none) (z_int : PySem.W.nsIn K mainGlobals "int" = some none) (z_bool : PySem.W.nsIn K mainGlobals "bool" = some none) (z_reversed : PySem.W.nsIn K mainGlobals "reversed" = some none) :
    ∃ fd : FuncData, (∀ (s : Shared) (v : Value), BindsTo s fd ⟨[v], []⟩ [("_law_script", v)]) ∧ ∀ base : Heap, K.In base → base.Ns mainGlobals mg → FnOk l.prog w K mg base CX0 17 fa fd ["_law_script"] (spLaw K) := by
  have e := hfa.symm.trans (PySem.W.mg_of X G a29)
  cases e
  have T : Txt mg := ⟨PySem.W.mg_none_of X G z_list, PySem.W.mg_none_of X G z_tuple, PySem.W.mg_none_of X G z_len, PySem.W.mg_none_of X G z_range, PySem.W.mg_none_of X G z_min, PySem.W.mg_none_of X G z_abs, PySem.W.mg_none_of X G z_sum, PySem.W.mg_none_of X G z_sorted, PySem.W.mg_none_of X G z_isinstance, PySem.W.mg_none_of X G z_enumerate, PySem.W.mg_none_of X G z_str, PySem.W.mg_none_of X G z_int, PySem.W.mg_none_of X G z_bool, PySem.W.mg_none_of X G z_reversed⟩
  have mN := PySem.W.mg_of X G xN
  have F1 := fun_mk (st := sMark) l1 c1 k1
  have F2 := fun_mk (st := sTU) l2 c2 k2
  have F3 := fun_mk (st := sKnot) l3 c3 k3
  have F4 := fun_mk (st := sLevels) l4 c4 k4
  have F5 := fun_mk (st := sAt) l5 c5 k5
  have F6 := fun_mk (st := sWith) l6 c6 k6
  have F7 := fun_mk (st := sLeads) l7 c7 k7
  have F8 := fun_mk (st := sMany) l8 c8 k8
  have F9 := fun_mk (st := sInstead) l9 c9 k9
  have F10 := fun_mk (st := sTaken) l10 c10 k10
  have F11 := fun_mk (st := sDone) l11 c11 k11
  have F12 := fun_mk (st := sLed) l12 c12 k12
  have F13 := fun_mk (st := sBehind) l13 c13 k13
  have F14 := fun_mk (st := sTurned) l14 c14 k14
  have F15 := fun_mk (st := sWord) l15 c15 k15
  have F16 := fun_mk (st := sDrawn) l16 c16 k16
  have F17 := fun_mk (st := sAll) l17 c17 k17
  have F18 := fun_mk (st := sStepped) l18 c18 k18
  have F19 := fun_mk (st := sIsRow) l19 c19 k19
  have F20 := fun_mk (st := sIsPath) l20 c20 k20
  have F21 := fun_mk (st := sAre) l21 c21 k21
  have F22 := fun_mk (st := sWalked) l22 c22 k22
  have F23 := fun_mk (st := sSize) l23 c23 k23
  have F24 := fun_mk (st := sWandered) l24 c24 k24
  have F25 := fun_mk (st := sRefuses) l25 c25 k25
  have F26 := fun_mk (st := sAny) l26 c26 k26
  have F27 := fun_mk (st := sDue) l27 c27 k27
  have F28 := fun_mk (st := sSo) l28 c28 k28
  have F29 := fun_mk (st := sLaw) l29 c29 k29
  have b1 := F1.binds (ps := ["tree"]) fun _ _ _ _ _ _ us hl => by obtain ⟨_, rfl⟩ := len1 hl; rfl
  have b2 := F2.binds (ps := ["tree"]) fun _ _ _ _ _ _ us hl => by obtain ⟨_, rfl⟩ := len1 hl; rfl
  have b3 := F3.binds (ps := ["mark", "trees"]) fun _ _ _ _ _ _ us hl => by obtain ⟨_, _, rfl⟩ := len2 hl; rfl
  have b4 := F4.binds (ps := ["row", "path"]) fun _ _ _ _ _ _ us hl => by obtain ⟨_, _, rfl⟩ := len2 hl; rfl
  have b5 := F5.binds (ps := ["row", "path"]) fun _ _ _ _ _ _ us hl => by obtain ⟨_, _, rfl⟩ := len2 hl; rfl
  have b6 := F6.binds (ps := ["row", "path", "trees"]) fun _ _ _ _ _ _ us hl => by obtain ⟨_, _, _, rfl⟩ := len3 hl; rfl
  have b7 := F7.binds (ps := ["row", "path"]) fun _ _ _ _ _ _ us hl => by obtain ⟨_, _, rfl⟩ := len2 hl; rfl
  have b8 := F8.binds (ps := ["step"]) fun _ _ _ _ _ _ us hl => by obtain ⟨_, rfl⟩ := len1 hl; rfl
  have b9 := F9.binds (ps := ["step", "taken"]) fun _ _ _ _ _ _ us hl => by obtain ⟨_, _, rfl⟩ := len2 hl; rfl
  have b10 := F10.binds (ps := ["row", "step"]) fun _ _ _ _ _ _ us hl => by obtain ⟨_, _, rfl⟩ := len2 hl; rfl
  have b11 := F11.binds (ps := ["row", "step"]) fun _ _ _ _ _ _ us hl => by obtain ⟨_, _, rfl⟩ := len2 hl; rfl
  have b12 := F12.binds (ps := ["row", "step"]) fun _ _ _ _ _ _ us hl => by obtain ⟨_, _, rfl⟩ := len2 hl; rfl
  have b13 := F13.binds (ps := ["row", "steps"]) fun _ _ _ _ _ _ us hl => by obtain ⟨_, _, rfl⟩ := len2 hl; rfl
  have b14 := F14.binds (ps := ["row", "steps"]) fun _ _ _ _ _ _ us hl => by obtain ⟨_, _, rfl⟩ := len2 hl; rfl
  have b15 := F15.binds (ps := ["_law_cell"]) fun _ _ _ _ _ _ us hl => by obtain ⟨_, rfl⟩ := len1 hl; rfl
  have b16 := F16.binds (ps := ["_law_cells"]) fun _ _ _ _ _ _ us hl => by obtain ⟨_, rfl⟩ := len1 hl; rfl
  have b17 := F17.binds (ps := ["_law_row"]) fun _ _ _ _ _ _ us hl => by obtain ⟨_, rfl⟩ := len1 hl; rfl
  have b18 := F18.binds (ps := ["_law_row", "_law_step"]) fun _ _ _ _ _ _ us hl => by obtain ⟨_, _, rfl⟩ := len2 hl; rfl
  have b19 := F19.binds (ps := ["_law_found"]) fun _ _ _ _ _ _ us hl => by obtain ⟨_, rfl⟩ := len1 hl; rfl
  have b20 := F20.binds (ps := ["_law_found"]) fun _ _ _ _ _ _ us hl => by obtain ⟨_, rfl⟩ := len1 hl; rfl
  have b21 := F21.binds (ps := ["_law_found"]) fun _ _ _ _ _ _ us hl => by obtain ⟨_, rfl⟩ := len1 hl; rfl
  have b22 := F22.binds (ps := ["_law_row", "_law_steps"]) fun _ _ _ _ _ _ us hl => by obtain ⟨_, _, rfl⟩ := len2 hl; rfl
  have b23 := F23.binds (ps := ["_law_trees"]) fun _ _ _ _ _ _ us hl => by obtain ⟨_, rfl⟩ := len1 hl; rfl
  have b24 := F24.binds (ps := ["_law_row", "_law_cells"]) fun _ _ _ _ _ _ us hl => by obtain ⟨_, _, rfl⟩ := len2 hl; rfl
  have b25 := F25.binds (ps := ["_law_way", "_law_row", "_law_steps"]) fun _ _ _ _ _ _ us hl => by obtain ⟨_, _, _, rfl⟩ := len3 hl; rfl
  have b26 := F26.binds (ps := ["_law_cell"]) fun _ _ _ _ _ _ us hl => by obtain ⟨_, rfl⟩ := len1 hl; rfl
  have b27 := F27.binds (ps := ["_law_row", "_law_steps"]) fun _ _ _ _ _ _ us hl => by obtain ⟨_, _, rfl⟩ := len2 hl; rfl
  have b28 := F28.binds (ps := ["_law_found", "_law_due"]) fun _ _ _ _ _ _ us hl => by obtain ⟨_, _, rfl⟩ := len2 hl; rfl
  refine ⟨PySem.W.fnOf "law" "law" (defArgs sLaw) (defBody sLaw) (defScope sLaw) .none kV29 dc29 pm29 an29 cd29 ct29, fun s v => .of_eq rfl, fun base _ _ => ?_⟩
  have O_mark_of : Ok1 l.prog w K mg base 3 "mark_of" ["tree"] spMark := ⟨_, _, ok_mark F1, PySem.W.mg_of X G a1, k1, b1⟩
  have O_trees_under : Ok1 l.prog w K mg base 3 "trees_under" ["tree"] spTU := ⟨_, _, ok_tu F2 T, PySem.W.mg_of X G a2, k2, b2⟩
  have O_knot : Ok1 l.prog w K mg base 3 "knot" ["mark", "trees"] spKnot := ⟨_, _, ok_knot F3 T, PySem.W.mg_of X G a3, k3, b3⟩
  have O_levels : Ok1 l.prog w K mg base 5 "levels" ["row", "path"] spLevels := ⟨_, _, ok_levels F4 T O_trees_under, PySem.W.mg_of X G a4, k4, b4⟩
  have O_trees_at : Ok1 l.prog w K mg base 7 "trees_at" ["row", "path"] spAt := ⟨_, _, ok_at F5 O_levels, PySem.W.mg_of X G a5, k5, b5⟩
  have O_with_trees_at : Ok1 l.prog w K mg base 7 "with_trees_at" ["row", "path", "trees"] spWith := ⟨_, _, ok_with F6 T O_levels O_knot O_mark_of, PySem.W.mg_of X G a6, k6, b6⟩
  have O_leads : Ok1 l.prog w K mg base 5 "leads" ["row", "path"] spLeads := ⟨_, _, ok_leads F7 T O_trees_under, PySem.W.mg_of X G a7, k7, b7⟩
  have O_how_many : Ok1 l.prog w K mg base 3 "how_many" ["step"] spMany := ⟨_, _, ok_many F8, PySem.W.mg_of X G a8, k8, b8⟩
  have O_trees_instead : Ok1 l.prog w K mg base 5 "trees_instead" ["step", "taken"] spInstead := ⟨_, _, ok_instead F9 O_knot O_trees_under, PySem.W.mg_of X G a9, k9, b9⟩
  have O_trees_taken : OkR l.prog w K mg base 9 "trees_taken" ["row", "step"] (spTaken CN) := ⟨_, _, ok_taken F10 T y1 mN O_leads O_how_many O_trees_at, PySem.W.mg_of X G a10, k10, b10⟩
  have O_done : OkR l.prog w K mg base 11 "done" ["row", "step"] (spDone CN) := ⟨_, _, ok_done F11 T O_trees_taken O_trees_at O_trees_instead O_with_trees_at, PySem.W.mg_of X G a11, k11, b11⟩
  have O_led_back : OkR l.prog w K mg base 11 "led_back" ["row", "step"] (spLed CN) := ⟨_, _, ok_led F12 T O_trees_taken O_trees_under O_mark_of, PySem.W.mg_of X G a12, k12, b12⟩
  have O_behind : OkR l.prog w K mg base 13 "behind" ["row", "steps"] (spBehind CN) := ⟨_, _, ok_behind F13 T O_done, PySem.W.mg_of X G a13, k13, b13⟩
  have O_turned : OkR l.prog w K mg base 13 "turned" ["row", "steps"] (spTurned CN) := ⟨_, _, ok_turned F14 O_done O_led_back, PySem.W.mg_of X G a14, k14, b14⟩
  have O__law_any_word : Ok1 l.prog w K mg base 3 "_law_any_word" ["_law_cell"] spWord := ⟨_, _, ok_word F15 T, PySem.W.mg_of X G a15, k15, b15⟩
  have O__law_drawn_row : Ok1 l.prog w K mg base 5 "_law_drawn_row" ["_law_cells"] spDrawn := ⟨_, _, ok_drawn F16 T O__law_any_word, PySem.W.mg_of X G a16, k16, b16⟩
  have O__law_all_paths : Ok1 l.prog w K mg base 7 "_law_all_paths" ["_law_row"] spAll := ⟨_, _, ok_all F17 T, PySem.W.mg_of X G a17, k17, b17⟩
  have O__law_stepped : Ok1 l.prog w K mg base 5 "_law_stepped" ["_law_row", "_law_step"] spStepped := ⟨_, _, ok_stepped F18 T, PySem.W.mg_of X G a18, k18, b18⟩
  have O__law_is_row : Ok1 l.prog w K mg base 5 "_law_is_row" ["_law_found"] spIsRow := ⟨_, _, ok_isrow F19 T, PySem.W.mg_of X G a19, k19, b19⟩
  have O__law_is_path : Ok1 l.prog w K mg base 3 "_law_is_path" ["_law_found"] spIsPath := ⟨_, _, ok_ispath F20 T, PySem.W.mg_of X G a20, k20, b20⟩
  have O__law_are_steps : Ok1 l.prog w K mg base 5 "_law_are_steps" ["_law_found"] spAre := ⟨_, _, ok_are F21 T O__law_is_path, PySem.W.mg_of X G a21, k21, b21⟩
  have O__law_walked : Ok1 l.prog w K mg base 7 "_law_walked" ["_law_row", "_law_steps"] spWalked := ⟨_, _, ok_walked F22 O__law_stepped, PySem.W.mg_of X G a22, k22, b22⟩
  have O__law_size : Ok1 l.prog w K mg base 5 "_law_size" ["_law_trees"] spSize := ⟨_, _, ok_size F23 T, PySem.W.mg_of X G a23, k23, b23⟩
  have O__law_wandered : Ok1 l.prog w K mg base 9 "_law_wandered" ["_law_row", "_law_cells"] spWandered := ⟨_, _, ok_wandered F24 T O__law_all_paths O__law_any_word O__law_stepped O__law_size, PySem.W.mg_of X G a24, k24, b24⟩
  have O__law_refuses : Ok1 l.prog w K mg base 15 "_law_refuses" ["_law_way", "_law_row", "_law_steps"] spRefuses := ⟨_, _, ok_refuses F25 T mN w1 O_behind O_turned, PySem.W.mg_of X G a25, k25, b25⟩
  have O__law_any : Ok1 l.prog w K mg base 3 "_law_any" ["_law_cell"] spAny := ⟨_, _, ok_any F26 T, PySem.W.mg_of X G a26, k26, b26⟩
  have O__law_turned_due : Ok1 l.prog w K mg base 7 "_law_turned_due" ["_law_row", "_law_steps"] spDue := ⟨_, _, ok_due F27 T O__law_stepped, PySem.W.mg_of X G a27, k27, b27⟩
  have O__law_so : Ok1 l.prog w K mg base 5 "_law_so" ["_law_found", "_law_due"] spSo := ⟨_, _, ok_so F28 T, PySem.W.mg_of X G a28, k28, b28⟩
  exact ok_law F29 T O__law_drawn_row O__law_wandered O_behind O_turned O__law_is_row O__law_are_steps O__law_so O__law_any O__law_refuses O__law_turned_due O__law_walked
theorem walk {l : PySem.W.OpenLaw} {q : Program} {loose : List Str} {XP : (Str → Option Value) → Heap → Prop} {YP : World → Heap → Prop} {d : DefRec} {K : Params → PySem.W.Frag} (hn : l.most = some 63) (hdf : d.params.defaults = [])
    (hY : ∀ (w : World) (h : Heap), YP w h → (K w.params).In h)
    (F : ∀ (w : World) (mg : Str → Option Value) (fa : Addr) (h : Heap), (K w.params).In h → h.Ns mainGlobals mg → mg d.name = some (.ref fa) →
      ∃ fd : FuncData, (∀ (s : Shared) (u : Value), BindsTo s fd ⟨[u], []⟩ [("_law_script", u)]) ∧ ∀ base : Heap, (K w.params).In base → base.Ns mainGlobals mg → FnOk l.prog w (K w.params) mg base CX0 17 fa fd ["_law_script"] (spLaw (K w.params))) :
    PySem.W.WalkO q loose XP YP l.row.toRowW d [] (fun f vs => PySem.call f vs) :=
  L2.walk_of (n := 63) (k := 17) (x := "_law_script") (CX := fun _ => CX0) (sp := fun w => spLaw (K w.params)) hn (by decide) hdf ⟨rfl, by decide, by decide, rfl⟩ hY F (fun _ _ a ns hl _ hS => ⟨a, ns, rfl, hS, hl, fun _ => rfl⟩) fun _ _ _ _ _ z => z
end K3
open PySem PySem.W PyProof.Rows
set_option maxRecDepth 100000 in
set_option maxHeartbeats 0 in
theorem PySem.Challenge.cw_treetrim_k03_whole_steps_turned_holds : PySem.Challenge.rw_treetrim_k03_whole_steps_turned.Holds := by
  w_on; o_law; k_head; (case hw => w_witness2)
  k_fill
  refine K3.walk (l := PySem.Challenge.rw_treetrim_k03_whole_steps_turned) rfl rfl (fun w h Y => PySem.W.kIn_of Y) ?F
  case F =>
    intro w mg fa h KX G hmg
    refine' K3.all_mk KX G hmg ?a1 ?l1 ?c1 ?k1 ?a2 ?l2 ?c2 ?k2 ?a3 ?l3 ?c3 ?k3 ?a4 ?l4 ?c4 ?k4 ?a5 ?l5 ?c5 ?k5 ?a6 ?l6 ?c6 ?k6 ?a7 ?l7 ?c7 ?k7 ?a8 ?l8 ?c8 ?k8 ?a9 ?l9 ?c9 ?k9 ?a10 ?l10 ?c10 ?k10 ?a11 ?l11 ?c11 ?k11 ?a12 ?l12 ?c12 ?k12 ?a13 ?l13 ?c13 ?k13 ?a14 ?l14 ?c14 ?k14 ?a15 ?l15 ?c15 ?k15 ?a16 ?l16 ?c16 ?k16 ?a17 ?l17 ?c17 ?k17 ?a18 ?l18 ?c18 ?k18 ?a19 ?l19 ?c19 ?k19 ?a20 ?l20 ?c20 ?k20 ?a21 ?l21 ?c21 ?k21 ?a22 ?l22 ?c22 ?k22 ?a23 ?l23 ?c23 ?k23 ?a24 ?l24 ?c24 ?k24 ?a25 ?l25 ?c25 ?k25 ?a26 ?l26 ?c26 ?k26 ?a27 ?l27 ?c27 ?k27 ?a28 ?l28 ?c28 ?k28 ?a29 ?l29 ?c29 ?k29 ?xN ?y1 ?w1 ?z_list ?z_tuple ?z_len ?z_range ?z_min ?z_abs ?z_sum ?z_sorted ?z_isinstance ?z_enumerate ?z_str ?z_int ?z_bool ?z_reversed
    (case a1 => k_is)
    (case l1 => k_is)
    (case c1 => k_is)
    (case k1 => k_is)
    (case a2 => k_is)
    (case l2 => k_is)
    (case c2 => k_is)
    (case k2 => k_is)
    (case a3 => k_is)
    (case l3 => k_is)
    (case c3 => k_is)
    (case k3 => k_is)
    (case a4 => k_is)
    (case l4 => k_is)
    (case c4 => k_is)
    (case k4 => k_is)
    (case a5 => k_is)
    (case l5 => k_is)
    (case c5 => k_is)
    (case k5 => k_is)
    (case a6 => k_is)
    (case l6 => k_is)
    (case c6 => k_is)
    (case k6 => k_is)
    (case a7 => k_is)
    (case l7 => k_is)
    (case c7 => k_is)
    (case k7 => k_is)
    (case a8 => k_is)
    (case l8 => k_is)
    (case c8 => k_is)
    (case k8 => k_is)
    (case a9 => k_is)
    (case l9 => k_is)
    (case c9 => k_is)
    (case k9 => k_is)
    (case a10 => k_is)
    (case l10 => k_is)
    (case c10 => k_is)
    (case k10 => k_is)
    (case a11 => k_is)
    (case l11 => k_is)
    (case c11 => k_is)
    (case k11 => k_is)
    (case a12 => k_is)
    (case l12 => k_is)
    (case c12 => k_is)
    (case k12 => k_is)
    (case a13 => k_is)
    (case l13 => k_is)
    (case c13 => k_is)
    (case k13 => k_is)
    (case a14 => k_is)
    (case l14 => k_is)
    (case c14 => k_is)
    (case k14 => k_is)
    (case a15 => k_is)
    (case l15 => k_is)
    (case c15 => k_is)
    (case k15 => k_is)
    (case a16 => k_is)
    (case l16 => k_is)
    (case c16 => k_is)
    (case k16 => k_is)
    (case a17 => k_is)
    (case l17 => k_is)
    (case c17 => k_is)
    (case k17 => k_is)
    (case a18 => k_is)
    (case l18 => k_is)
    (case c18 => k_is)
    (case k18 => k_is)
    (case a19 => k_is)
    (case l19 => k_is)
    (case c19 => k_is)
    (case k19 => k_is)
    (case a20 => k_is)
    (case l20 => k_is)
    (case c20 => k_is)
    (case k20 => k_is)
    (case a21 => k_is)
    (case l21 => k_is)
    (case c21 => k_is)
    (case k21 => k_is)
    (case a22 => k_is)
    (case l22 => k_is)
    (case c22 => k_is)
    (case k22 => k_is)
    (case a23 => k_is)
    (case l23 => k_is)
    (case c23 => k_is)
    (case k23 => k_is)
    (case a24 => k_is)
    (case l24 => k_is)
    (case c24 => k_is)
    (case k24 => k_is)
    (case a25 => k_is)
    (case l25 => k_is)
    (case c25 => k_is)
    (case k25 => k_is)
    (case a26 => k_is)
    (case l26 => k_is)
    (case c26 => k_is)
    (case k26 => k_is)
    (case a27 => k_is)
    (case l27 => k_is)
    (case c27 => k_is)
    (case k27 => k_is)
    (case a28 => k_is)
    (case l28 => k_is)
    (case c28 => k_is)
    (case k28 => k_is)
    (case a29 => k_is)
    (case l29 => k_is)
    (case c29 => k_is)
    (case k29 => k_is)
    (case xN => k_is)
    (case y1 => k_exc)
    (case w1 => kts_exm)
    (case z_list => k_is)
    (case z_tuple => k_is)
    (case z_len => k_is)
    (case z_range => k_is)
    (case z_min => k_is)
    (case z_abs => k_is)
    (case z_sum => k_is)
    (case z_sorted => k_is)
    (case z_isinstance => k_is)
    (case z_enumerate => k_is)
    (case z_str => k_is)
    (case z_int => k_is)
    (case z_bool => k_is)
    (case z_reversed => k_is)
#print axioms PySem.Challenge.cw_treetrim_k03_whole_steps_turned_holds
