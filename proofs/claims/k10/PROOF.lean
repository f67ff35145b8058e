import PyProof.Rows.All
import Wide.All
import OpenK.AllK
import Wide.FinOn
import Lean
import PyProof.EqAt
import PyProof.EqKinds
import PyProof.TupleCall
import KE.KWords
import PySem.Challenge.RW_treetrim_k10_whole_written_and_read
set_option Elab.async false
set_option linter.all false
set_option maxRecDepth 100000
/-! THE HAND LAYER, for ints, bools, texts, own classes, LISTS and tuples (index, slices, in, append, pop ..), calls, loops. Paste it whole ahead of your own text; what your proof does not reach may be deleted. -/
namespace L2
open PySem PySem.Spec PyProof.Rows

/-- a key: an int or a str -/
abbrev Key := Sum Int Str
def keyIs : Key → Value → Bool
  | .inl k, v => Value.isInt k v
  | .inr x, v => Value.isStrOf x v
def keyH (w : World) : Key → Int
  | .inl k => hashInt k
  | .inr x => hashStr w x
theorem keyIs_shape : ∀ {k : Key} {v : Value}, keyIs k v = true → (∃ i t, k = Sum.inl i ∧ v = Value.int i t) ∨ (∃ x t, k = Sum.inr x ∧ v = Value.str x t)
  | .inl i, v, h => by
    obtain ⟨t, e⟩ := Value.isInt_shape (k := i) (v := v) h
    exact .inl ⟨i, t, rfl, e⟩
  | .inr x, v, h => by
    obtain ⟨t, e⟩ := Value.isStrOf_shape (x := x) (v := v) h
    exact .inr ⟨x, t, rfl, e⟩
theorem key_ll (a b : Int) : decide ((Sum.inl a : Key) = Sum.inl b) = (a == b) := by
  by_cases e : a = b
  · subst e; simp
  · have h : ¬ (Sum.inl a : Key) = Sum.inl b := fun q => e (Sum.inl.inj q)
    rw [decide_eq_false h]
    exact (beq_eq_false_iff_ne.mpr e).symm
theorem key_rr (a b : Str) : decide ((Sum.inr a : Key) = Sum.inr b) = decide (a = b) := by
  by_cases e : a = b
  · subst e; simp
  · have h : ¬ (Sum.inr a : Key) = Sum.inr b := fun q => e (Sum.inr.inj q)
    rw [decide_eq_false h, decide_eq_false e]
theorem key_lr (a : Int) (b : Str) : decide ((Sum.inl a : Key) = Sum.inr b) = false := decide_eq_false (fun q => nomatch q)
theorem key_rl (a : Str) (b : Int) : decide ((Sum.inr a : Key) = Sum.inl b) = false := decide_eq_false (fun q => nomatch q)

def mixKind (prog : Program) (w : World) : PySem.KeyKind prog w Key where
  is := keyIs
  hash := keyH w
  inj := fun v a b ha hb => by
    rcases keyIs_shape ha with ⟨i, t, rfl, rfl⟩ | ⟨x, t, rfl, rfl⟩
    · rcases keyIs_shape hb with ⟨j, u, rfl, e⟩ | ⟨y, u, rfl, e⟩
      · injection e with e1 _; rw [e1]
      · exact nomatch e
    · rcases keyIs_shape hb with ⟨j, u, rfl, e⟩ | ⟨y, u, rfl, e⟩
      · exact nomatch e
      · injection e with e1 _; rw [e1]
  byValue := fun k v h => by
    rcases keyIs_shape h with ⟨i, t, rfl, rfl⟩ | ⟨x, t, rfl, rfl⟩ <;> rfl
  pyHash := fun hv h => by
    rcases keyIs_shape hv with ⟨i, t, rfl, rfl⟩ | ⟨x, t, rfl, rfl⟩
    · exact wpAny_pyHash_int h
    · exact wpAny_pyHash_str h
  eqBool := fun hu hv h => by
    rcases keyIs_shape hu with ⟨i, t, rfl, rfl⟩ | ⟨x, t, rfl, rfl⟩
    · rcases keyIs_shape hv with ⟨j, u, rfl, rfl⟩ | ⟨y, u, rfl, rfl⟩
      · rw [key_ll] at h; exact wpAny_eqBool_int h
      · rw [key_lr] at h; exact SeqAt.EqAt.int_str i t y u _ _ _ _ h
    · rcases keyIs_shape hv with ⟨j, u, rfl, rfl⟩ | ⟨y, u, rfl, rfl⟩
      · rw [key_rl] at h; exact SeqAt.EqAt.str_int x t j u _ _ _ _ h
      · rw [key_rr] at h; exact wpAny_eqBool_str h
  «strs» := fun k x t v h => by
    rcases keyIs_shape h with ⟨i, u, rfl, e⟩ | ⟨y, u, rfl, e⟩
    · exact nomatch e
    · injection e with e1 _
      subst e1
      cases v <;> rfl

end L2

namespace L2
open PySem PySem.Spec PyProof.Rows

/-- a value, without the heap -/
inductive V where
  | non | bl (b : Bool) | int (i : Int) | str (x : Str) | byt (b : Array UInt8) | flt (b : UInt64) | ref (a : Addr) | ty (n : String)
  deriving DecidableEq

def RelV : V → Value → Prop
  | .non, u => u = Value.none
  | .bl b, u => u = Value.bool b
  | .int i, u => ∃ t, u = Value.int i t
  | .str x, u => ∃ t, u = Value.str x t
  | .byt b, u => ∃ t, u = Value.bytes b t
  | .flt b, u => ∃ t, u = Value.float b t
  | .ref a, u => u = Value.ref a
  | .ty n, u => u = Value.type n

abbrev Vals : List V → List Value → Prop := Paired RelV
theorem Vals.length {xs : List V} {us : List Value} (r : Vals xs us) : xs.length = us.length := Paired.length r
theorem Vals.get : ∀ {xs : List V} {us : List Value} {i : Nat} {x : V}, Vals xs us → xs[i]? = some x → ∃ u, us[i]? = some u ∧ RelV x u
  | _, _, _, _, .nil, e => by simp at e
  | _, _, 0, _, .cons r _, e => by simp at e; subst e; exact ⟨_, rfl, r⟩
  | _, _, i + 1, x, .cons _ t, e => by
    obtain ⟨u, h1, h2⟩ := Vals.get (i := i) (x := x) t (by simpa using e)
    exact ⟨u, by simpa using h1, h2⟩
theorem Vals.append : ∀ {xs ys : List V} {us ws : List Value}, Vals xs us → Vals ys ws → Vals (xs ++ ys) (us ++ ws)
  | _, _, _, _, .nil, s => s
  | _, _, _, _, .cons r t, s => .cons r (Vals.append t s)
theorem Vals.take : ∀ {xs : List V} {us : List Value} (n : Nat), Vals xs us → Vals (xs.take n) (us.take n)
  | _, _, 0, _ => .nil
  | _, _, _ + 1, .nil => .nil
  | _, _, n + 1, .cons r t => .cons r (Vals.take n t)
theorem Vals.drop : ∀ {xs : List V} {us : List Value} (n : Nat), Vals xs us → Vals (xs.drop n) (us.drop n)
  | _, _, 0, r => r
  | _, _, _ + 1, .nil => .nil
  | _, _, n + 1, .cons _ t => Vals.drop n t
def RelO : Option V → Option Value → Prop
  | some v, some u => RelV v u
  | none, none => True
  | _, _ => False
def KV {κ : Type} : List (κ × V) → List (κ × Value) → Prop := Paired fun (p : κ × V) (q : κ × Value) => p.1 = q.1 ∧ RelV p.2 q.2

/-- a key of a dict (00_mix): an int or a text -/
def kV : Key → V
  | .inl i => .int i
  | .inr x => .str x

/-- what stands at a tracked address -/
inductive HO where
  /-- a list -/
  | lst (xs : List V)
  /-- a tuple (never changes) -/
  | tup (xs : List V)
  /-- a dict whose keys are ints and texts; one whose keys are tuples of ints and texts (the empty one is both) -/
  | dK (kvs : List (Key × V)) | dT (kvs : List (List Key × V))
  /-- a set of ints: its members, its size -/
  | set (S : Int → Bool) (n : Nat)
  /-- an instance of the class at C, its dict at dx, its attributes -/
  | ins (C dx : Addr) (fs : List (Str × V))
  /-- the dict of the instance at x -/
  | own (x : Addr)
  /-- the dict of an exception -/
  | xd (fs : List (Str × V))
  /-- a bound method, f of x -/
  | met (f x : Addr)
  /-- a range object lo, lo + 1, .. below hi -/
  | rng (lo hi : Int)
  /-- a thing that is known to the object (the script; a dict while a loop walks it): read, never written while it is so -/
  | frz (o : Obj) (u : HO)
  /-- a code object's table -/
  | tbl (ps : Array Value)
  /-- any other thing, by what is true of its one object (a def of one's own: SetO a S n := HO.ext fun h => ..) -/
  | ext (φ : Heap → Prop)

abbrev Hp := Addr → Option HO
def upd (H : Hp) (a : Addr) (o : HO) : Hp := fun b => if b = a then some o else H b
theorem upd_same {H : Hp} {a : Addr} {o : HO} : upd H a o a = some o := by unfold upd; rw [if_pos rfl]
theorem upd_ne {H : Hp} {a b : Addr} {o : HO} (h : b ≠ a) : upd H a o b = H b := by unfold upd; rw [if_neg h]
theorem upd_upd {H : Hp} {a : Addr} {o u : HO} : upd (upd H a o) a u = upd H a u := by
  funext b; unfold upd; split <;> rfl
theorem ne_of_none {H : Hp} {a b : Addr} {o : HO} (h : H a = some o) (h' : H b = none) : a ≠ b := by
  intro e; subst e; rw [h] at h'; cases h'

section
variable (P : Program) (w : World)
def ObjOk (H : Hp) (h : Heap) (a : Addr) : HO → Prop
  | .lst xs => xs.length ≤ sizeLine ∧ ∃ (its : List Value) (n : Nat), Vals xs its ∧ h.get? a = some { cls := .type "list", data := .seq its.toArray n }
  | .tup xs => xs.length ≤ sizeLine ∧ ∃ its : List Value, Vals xs its ∧ IsTup h a its.toArray
  | .dK kvs => kvs.length ≤ sizeLine ∧ (a == sysModules) = false ∧ ∃ vs, KV kvs vs ∧ h.DictOf (mixKind P w) a vs
  | .dT kvs => kvs.length ≤ sizeLine ∧ (a == sysModules) = false ∧ ∃ xs : List (List Key × Addr × Value),
      Paired (fun (p : List Key × V) (q : List Key × Addr × Value) => p.1 = q.1 ∧ H q.2.1 = some (.tup (p.1.map kV)) ∧ RelV p.2 q.2.2) kvs xs ∧
      ∃ o es ep, h.get? a = some o ∧ o.ExactDict ∧ o.data = .dict es ep ∧ es.toList = xs.map (entryOfKey (tupleKind (mixKind P w))) ∧ (xs.map (·.1)).Nodup
  | .set S n => h.SetOf (intKind P w) a S n
  | .ins C dx fs => H dx = some (.own a) ∧ fs.length ≤ 1000 ∧ dx ≠ a ∧ h.get? a = some (PySem.W.instObj C dx) ∧
      ∃ mA, h.Ns1 dx mA ∧ (∀ f, RelO (fs.lookup f) (mA f)) ∧ PySem.Within mA (fs.map (·.1))
  | .own _ => ∃ o, h.get? a = some o
  | .xd fs => ∃ mA, h.Ns1 a mA ∧ ∀ f, RelO (fs.lookup f) (mA f)
  | .rng lo hi => ∃ t u v, h.get? a = some { cls := .type "range", data := .fields #[.int lo t, .int hi u, .int 1 v] }
  | .frz o u => h.get? a = some o ∧ ObjOk H h a u
  | .tbl ps => h.get? a = some { cls := .none, data := .fields ps }
  | .met f x => h.get? a = some (PySem.W.methodObj (.ref f) (.ref x))
  | .ext φ => φ h ∧ (∃ o, h.get? a = some o) ∧ ∀ h1 h2 : Heap, φ h1 → (∀ o, h1.get? a = some o → h2.get? a = some o) → φ h2
/-- the abstract heap is held -/
def HOk (H : Hp) (h : Heap) : Prop := ∀ a o, H a = some o → ObjOk P w H h a o
end

section
variable {P : Program} {w : World} {H H' : Hp} {h h' : Heap} {a : Addr} {o : HO}
theorem ObjOk.lt (x : ObjOk P w H h a o) : a < h.objs.size := by
  cases o with
  | lst xs => obtain ⟨_, _, _, _, e⟩ := x; exact Heap.lt_size e
  | tup xs => obtain ⟨_, _, _, p⟩ := x; exact p.lt
  | dK kvs => obtain ⟨_, _, _, _, o, _, _, e, _⟩ := x; exact Heap.lt_size e
  | dT kvs => obtain ⟨_, _, _, _, o, _, _, e, _⟩ := x; exact Heap.lt_size e
  | set S n => obtain ⟨o, _, _, _, e, _⟩ := x; exact Heap.lt_size e
  | ins C dx fs => obtain ⟨_, _, _, e, _⟩ := x; exact Heap.lt_size e
  | own y => obtain ⟨_, e⟩ := x; exact Heap.lt_size e
  | xd fs => obtain ⟨_, ⟨_, _, _, e, _⟩, _⟩ := x; exact Heap.lt_size e
  | rng lo hi => obtain ⟨_, _, _, e⟩ := x; exact Heap.lt_size e
  | frz ob u => obtain ⟨e, _⟩ := x; exact Heap.lt_size e
  | tbl ps => exact Heap.lt_size (show h.get? a = some _ from x)
  | met f y => exact Heap.lt_size (show h.get? a = some _ from x)
  | ext φ => obtain ⟨_, ⟨_, e⟩, _⟩ := x; exact Heap.lt_size e
theorem Paired.mapP {α β : Type} {F G : α → β → Prop} : ∀ {l₁ : List α} {l₂ : List β}, Paired F l₁ l₂ → (∀ a b, F a b → G a b) → Paired G l₁ l₂
  | _, _, .nil, _ => .nil
  | _, _, .cons r t, f => .cons (f _ _ r) (Paired.mapP t f)
/-- what an object's description leans on: its own object, its own dict, the tuples -/
theorem ObjOk.stay (x : ObjOk P w H h a o) (k : ∀ b u, (b = a ∨ H b = some (.own a)) → h.get? b = some u → h'.get? b = some u)
    (ho : ∀ b, H b = some (.own a) → H' b = some (.own a)) (ht : ∀ b xs, H b = some (.tup xs) → H' b = some (.tup xs)) : ObjOk P w H' h' a o := by
  induction o with
  | lst xs => obtain ⟨z, its, n, r, e⟩ := x; exact ⟨z, its, n, r, k _ _ (.inl rfl) e⟩
  | tup xs => obtain ⟨z, its, r, ob, e, c⟩ := x; exact ⟨z, its, r, ob, k _ _ (.inl rfl) e, c⟩
  | dK kvs => obtain ⟨z, y, vs, r, ob, es, ep, e, c⟩ := x; exact ⟨z, y, vs, r, ob, es, ep, k _ _ (.inl rfl) e, c⟩
  | dT kvs =>
    obtain ⟨z, y, xs, r, ob, es, ep, e, c⟩ := x
    exact ⟨z, y, xs, Paired.mapP r fun p q z => ⟨z.1, ht _ _ z.2.1, z.2.2⟩, ob, es, ep, k _ _ (.inl rfl) e, c⟩
  | set S n => obtain ⟨ob, es, ep, t, e, c⟩ := x; exact ⟨ob, es, ep, t, k _ _ (.inl rfl) e, c⟩
  | ins C dx fs =>
    obtain ⟨d, z, ne, e, mA, ⟨od, es, ep, e2, c⟩, r⟩ := x
    exact ⟨ho _ d, z, ne, k _ _ (.inl rfl) e, mA, ⟨od, es, ep, k _ _ (.inr d) e2, c⟩, r⟩
  | own y => obtain ⟨ob, e⟩ := x; exact ⟨ob, k _ _ (.inl rfl) e⟩
  | xd fs => obtain ⟨mA, ⟨od, es, ep, e, c⟩, r⟩ := x; exact ⟨mA, ⟨od, es, ep, k _ _ (.inl rfl) e, c⟩, r⟩
  | rng lo hi => obtain ⟨t, u, v, e⟩ := x; exact ⟨t, u, v, k _ _ (.inl rfl) e⟩
  | frz ob u ih => obtain ⟨e, q⟩ := x; exact ⟨k _ _ (.inl rfl) e, ih q⟩
  | tbl ps =>
    have e : h.get? a = some { cls := .none, data := .fields ps } := x
    show h'.get? a = some { cls := .none, data := .fields ps }
    exact k a _ (.inl rfl) e
  | met f y =>
    have e : h.get? a = some (PySem.W.methodObj (.ref f) (.ref y)) := x
    show h'.get? a = some (PySem.W.methodObj (.ref f) (.ref y))
    exact k a _ (.inl rfl) e
  | ext φ => obtain ⟨p, ⟨o, e⟩, st⟩ := x; exact ⟨st _ _ p fun o q => k _ _ (.inl rfl) q, ⟨o, k _ _ (.inl rfl) e⟩, st⟩
theorem HOk.lt (x : HOk P w H h) (e : H a = some o) : a < h.objs.size := (x a o e).lt
theorem HOk.fresh (x : HOk P w H h) (e : h.objs.size ≤ a) : H a = none := by
  cases q : H a with
  | none => rfl
  | some u => exact absurd (Nat.lt_of_lt_of_le (x.lt q) e) (Nat.lt_irrefl _)
/-- every object of the heap is kept -/
theorem HOk.kept (x : HOk P w H h) (k : ∀ b u, h.get? b = some u → h'.get? b = some u) : HOk P w H h' := fun a o e =>
  (x a o e).stay (fun b u _ q => k b u q) (fun _ q => q) fun _ _ q => q
/-- a new object is laid and tracked -/
theorem HOk.laid (x : HOk P w H h) (k : ∀ b u, h.get? b = some u → h'.get? b = some u) (hp : h.objs.size ≤ a) (new : ObjOk P w (upd H a o) h' a o) : HOk P w (upd H a o) h' := fun b u e => by
  have hn := x.fresh hp
  by_cases hb : b = a
  · subst hb; rw [upd_same] at e; cases e; exact new
  · rw [upd_ne hb] at e
    exact (x b u e).stay (fun c v _ q => k c v q) (fun c q => by rw [upd_ne (ne_of_none q hn)]; exact q) fun c xs q => by rw [upd_ne (ne_of_none q hn)]; exact q
end

/-- what may be read as u: it is u, or a known u -/
def Rd (H : Hp) (a : Addr) (u : HO) : Prop := H a = some u ∨ ∃ o, H a = some (.frz o u)
theorem Rd.ok {P : Program} {w : World} {H : Hp} {h : Heap} {a : Addr} {u : HO} (r : Rd H a u) (x : HOk P w H h) : ObjOk P w H h a u := by
  rcases r with r | ⟨o, r⟩
  · exact x a u r
  · obtain ⟨_, q⟩ := x a _ r
    exact q
/-- what may be written -/
def Mut : Option HO → Prop
  | some (.lst _) => True
  | some (.dK _) => True
  | some (.dT _) => True
  | some (.set _ _) => True
  | some (.ins _ _ _) => True
  | some (.ext _) => True
  | _ => False
section
variable {P : Program} {w : World} {H : Hp} {h h' : Heap} {x e : Addr} {o' : HO}
/-- the object at e is changed: x itself, or the dict of the instance x -/
theorem HOk.write (ok : HOk P w H h) (mu : Mut (H x)) (he : e = x ∨ H e = some (.own x)) (k : ∀ b u, b ≠ e → h.get? b = some u → h'.get? b = some u) (heo : ∃ u, h'.get? e = some u)
    (new : ObjOk P w (upd H x o') h' x o') : HOk P w (upd H x o') h' := fun b u q => by
  have nown : ∀ c y, H c = some (.own y) → c ≠ x := fun c y r z => by subst z; rw [r] at mu; exact mu
  have ntup : ∀ c xs, H c = some (.tup xs) → c ≠ x := fun c xs r z => by subst z; rw [r] at mu; exact mu
  by_cases hb : b = x
  · subst hb; rw [upd_same] at q; cases q; exact new
  · rw [upd_ne hb] at q
    by_cases hbe : b = e
    · have q' : H b = some (.own x) := by
        rcases he with z | z
        · exact absurd (hbe.trans z) hb
        · rw [hbe]; exact z
      rw [q] at q'; cases q'
      obtain ⟨v, hv⟩ := heo
      exact ⟨v, by rw [hbe]; exact hv⟩
    · refine (ok b u q).stay (fun c v hc r => k c v ?_ r) (fun c r => by rw [upd_ne (nown c b r)]; exact r) fun c xs r => by rw [upd_ne (ntup c xs r)]; exact r
      rcases hc with rfl | hc
      · exact hbe
      · rintro rfl
        rcases he with z | z
        · exact nown c b hc z
        · rw [hc] at z; cases z; exact hb rfl
end

/-! ### kept unless tracked; of the frames at fs (the callers') the slots may change (an exception that passes writes there); of the records at ex (iterators) nothing is said -/
structure Un (fs ex : List Addr) (H H' : Hp) (h h' : Heap) : Prop where
  keep : ∀ b o, h.get? b = some o → H b = none → b ∉ fs → b ∉ ex → h'.get? b = some o
  slot : ∀ b o, h.get? b = some o → H b = none → b ∈ fs → b ∉ ex → ∃ sl, h'.get? b = some { o with slots := sl }
  free : ∀ b o, h.get? b = some o → H b = none → b ∉ ex → H' b = none
  there : ∀ b o, h.get? b = some o → b ∉ ex → ∃ o', h'.get? b = some o'
  tups : ∀ b xs, H b = some (.tup xs) → H' b = some (.tup xs)
  frzs : ∀ b o u, H b = some (.frz o u) → H' b = some (.frz o u)
  tbls : ∀ b ps, H b = some (.tbl ps) → ∃ more, H' b = some (.tbl (ps ++ more))
section
variable {fs fs' ex ex' : List Addr} {H H1 H2 : Hp} {h h1 h2 h' : Heap} {a x e : Addr} {o : HO}
theorem Un.any (u : Un fs ex H H1 h h1) {b : Addr} {ob : Obj} (q : h.get? b = some ob) (n : H b = none) (hx : b ∉ ex) : ∃ sl, h1.get? b = some { ob with slots := sl } := by
  by_cases hb : b ∈ fs
  · exact u.slot b ob q n hb hx
  · exact ⟨ob.slots, u.keep b ob q n hb hx⟩
theorem Un.kept (k : ∀ b u, h.get? b = some u → h'.get? b = some u) : Un fs ex H H h h' :=
  ⟨fun b ob q _ _ _ => k b ob q, fun b ob q _ _ _ => ⟨ob.slots, k b ob q⟩, fun _ _ _ n _ => n, fun b ob q _ => ⟨ob, k b ob q⟩, fun _ _ q => q, fun _ _ _ q => q, fun _ ps q => ⟨#[], by rw [q]; simp⟩⟩
theorem Un.refl : Un fs ex H H h h := Un.kept fun _ _ q => q
theorem Un.laid (k : ∀ b u, h.get? b = some u → h'.get? b = some u) (hp : h.objs.size ≤ a) (hn : H a = none) : Un fs ex H (upd H a o) h h' where
  keep := fun b u q _ _ _ => k b u q
  slot := fun b u q _ _ _ => ⟨u.slots, k b u q⟩
  free := fun b u q n _ => by rw [upd_ne (Nat.ne_of_lt (Nat.lt_of_lt_of_le (Heap.lt_size q) hp))]; exact n
  there := fun b u q _ => ⟨u, k b u q⟩
  tups := fun b xs q => by rw [upd_ne (ne_of_none q hn)]; exact q
  frzs := fun b u xs q => by rw [upd_ne (ne_of_none q hn)]; exact q
  tbls := fun b ps q => ⟨#[], by rw [upd_ne (ne_of_none q hn), q]; simp⟩
theorem Un.write (mu : Mut (H x)) (he : e = x ∨ H e = some (.own x)) (k : ∀ b u, b ≠ e → h.get? b = some u → h'.get? b = some u) (heo : ∃ u, h'.get? e = some u) : Un fs ex H (upd H x o) h h' := by
  have hx : ∀ b, H b = none → b ≠ x := fun b n z => by subst z; rw [n] at mu; exact mu
  have hb : ∀ b, H b = none → b ≠ e := fun b n z => by
    subst z
    rcases he with r | r
    · exact hx b n r
    · rw [n] at r; cases r
  have hm : ∀ b u, H b = some u → ¬ Mut (some u) → b ≠ x := fun b u q nm z => by subst z; rw [q] at mu; exact nm mu
  refine ⟨fun b u q n _ _ => k b u (hb b n) q, fun b u q n _ _ => ⟨u.slots, k b u (hb b n) q⟩, fun b u q n _ => by rw [upd_ne (hx b n)]; exact n, fun b u q _ => ?_,
    fun b xs q => by rw [upd_ne (hm b _ q fun z => z)]; exact q, fun b u xs q => by rw [upd_ne (hm b _ q fun z => z)]; exact q, fun b ps q => ⟨#[], by rw [upd_ne (hm b _ q fun z => z), q]; simp⟩⟩
  by_cases hbe : b = e
  · subst hbe; exact heo
  · exact ⟨u, k b u hbe q⟩
end

/-! ### the heap without what is tracked -/
def trk (h : Heap) (H : Hp) : List Addr := (List.range h.objs.size).filter fun a => (H a).isSome
def hidT (h : Heap) (H : Hp) : Heap := PySem.W.hideAll h (trk h H)
theorem hidT_size (h : Heap) (H : Hp) : (hidT h H).objs.size = h.objs.size := PySem.W.hideAll_size _ _
theorem hidT_get {h : Heap} {H : Hp} {b : Addr} {o : Obj} (e : h.get? b = some o) (n : H b = none) : (hidT h H).get? b = some o :=
  PySem.W.hideAll_get _ e fun hm => by
    have q : (H b).isSome = true := (List.mem_filter.mp hm).2
    rw [n] at q; simp at q
theorem of_hidT {h : Heap} {H : Hp} {b : Addr} {o : Obj} (e : (hidT h H).get? b = some o) : h.get? b = some o ∧ H b = none := by
  have e' : h.get? b = some o := PySem.W.of_hideAll (trk h H) e
  refine ⟨e', ?_⟩
  cases q : H b with
  | none => rfl
  | some x =>
    have hm : b ∈ trk h H := List.mem_filter.mpr ⟨List.mem_range.mpr (Heap.lt_size e'), by simp [q]⟩
    have z : (hidT h H).get? b = none := PySem.W.hideAll_none (trk h H) hm
    rw [z] at e; cases e

/-! ### OpenK's ledger, filled with every new object but one -/
def allNews (g h : Heap) (L : Addr) : List (Addr × Obj) := (List.range h.objs.size).filterMap fun a => if a = L ∨ (g.get? a).isSome = true then none else (h.get? a).map fun o => (a, o)
theorem mem_allNews {g h : Heap} {L a : Addr} {o : Obj} (h1 : a ≠ L) (h2 : g.get? a = none) (h3 : h.get? a = some o) : (a, o) ∈ allNews g h L :=
  List.mem_filterMap.mpr ⟨a, List.mem_range.mpr (Heap.lt_size h3), by simp [h1, h2, h3]⟩
theorem of_mem_allNews {g h : Heap} {L : Addr} {p : Addr × Obj} (hp : p ∈ allNews g h L) : p.1 ≠ L ∧ g.get? p.1 = none ∧ h.get? p.1 = some p.2 := by
  obtain ⟨b, _, e⟩ := List.mem_filterMap.mp hp
  split at e
  · cases e
  · rename_i hn
    cases q : h.get? b with
    | none => rw [q] at e; simp at e
    | some u =>
      rw [q] at e
      simp only [Option.map_some, Option.some.injEq] at e
      subst e
      refine ⟨fun z => hn (.inl z), ?_, q⟩
      show g.get? b = none
      cases r : g.get? b with
      | none => rfl
      | some v => exact (hn (.inr (by simp [r]))).elim
def rest (g h : Heap) (L d : Addr) : List (Addr × Obj) := (allNews g h L).filter fun p => decide (p.1 ≠ d)
theorem news_all {g h : Heap} {L : Addr} : News g L h (allNews g h L) := fun p hp => let ⟨a, b, c⟩ := of_mem_allNews hp; ⟨c, a, b⟩
end L2

namespace L2
open PySem PySem.Spec PyProof.Rows

/-- the module's facts, over the base: the heap at the law's entry without what is tracked there -/
structure Mod (K : PySem.W.Frag) (mg : Str → Option Value) (base : Heap) : Prop where
  kin : K.In base
  glob : base.Ns mainGlobals mg
  blt : ∃ mb, base.Ns builtinsNs mb ∧ ∀ x : Str, x ≠ "__name__" → mb x = bootBuiltins x
  nolimit : base.NoLimit

/-- the context: a def's body (or a comprehension's block) running. base: fixed through the whole law; s₀, H₀: the entry; outer: the frames whose slots others may change (a def's callers); stack: all frames that run;
   ex: iterators that were made ahead of the entry and are walked here (a comprehension's); fn: the names whose cells were made at the entry (a def: all; a comprehension's block: its own); calm: not within an except suite; pn: pins that every state bears; xe: what is wanted of an exception that leaves the code -/
structure Cx where
  prog : Program
  w : World
  K : PySem.W.Frag
  mg : Str → Option Value
  base : Heap
  A : Around
  N : List Str
  s₀ : Shared
  H₀ : Hp
  env : Env
  outer : List Env
  stack : List Env
  ex : List Addr
  fn : Str → Bool
  calm : Bool
  pn : List (Addr × Obj)
  xe : Value → Shared → Prop
/-- the callers' frames -/
def frs (l : List Env) : List Addr := l.filterMap (·.frame)
abbrev Cx.fs (X : Cx) : List Addr := frs X.outer

def Vis (sc : Scope) (x : Str) : Prop := sc.names.lookup x = some .local ∨ sc.names.lookup x = some .cell ∨ sc.names.lookup x = some .free
def Loc (sc : Scope) (x : Str) : Prop := sc.names.lookup x = some .local ∨ sc.names.lookup x = some .cell
def Look (env : Env) (h : Heap) (m : Str → Option Value) (x : Str) (u : Value) : Prop :=
  (env.kindOf x = some .local ∧ m x = some u) ∨ ((env.kindOf x = some .cell ∨ env.kindOf x = some .free) ∧ ∃ c, env.cells.lookup x = some c ∧ h.IsCell c (some u))

structure Cx.Ok (X : Cx) : Prop where
  mod : Mod X.K X.mg X.base
  kind : X.env.scope.kind = .function
  glob : X.env.globals = mainGlobals
  blt : X.env.builtins = builtinsNs
  above : X.s₀.heap.objs.size ≤ X.env.locals
  inj : ∀ x y c, X.env.cells.lookup x = some c → X.env.cells.lookup y = some c → x = y
  has : ∀ x, (X.env.kindOf x = some .cell ∨ X.env.kindOf x = some .free) → ∃ c, X.env.cells.lookup x = some c
  cab : ∀ x c, X.fn x = true → X.env.cells.lookup x = some c → X.s₀.heap.objs.size ≤ c
  hd : X.calm = true → X.A.handled = none
  frames : X.A.frames = some X.stack
  stk : X.stack = X.outer ∨ (X.stack = X.env :: X.outer ∧ X.env.frame = some X.env.locals)
  exf : ∀ b ∈ X.ex, b ≠ X.env.locals ∧ ∀ x c, X.env.cells.lookup x = some c → c ≠ b
  bs : ∀ b o, X.base.get? b = some o → X.s₀.heap.get? b = some o ∧ X.H₀ b = none
  bsz : X.base.objs.size ≤ X.s₀.heap.objs.size
  noex : ∀ b o, X.base.get? b = some o → b ∉ X.ex
  exfs : ∀ b ∈ X.ex, b ∉ X.fs
  funs : X.s₀.heap.FunFrames X.base X.outer
  frf : ∀ b ∈ X.fs, X.H₀ b = none

structure Inv (X : Cx) (pins : List (Addr × Obj)) (σ : List (Option V)) (H : Hp) (s : Shared) : Prop where
  ok : X.Ok
  os : s.os = X.s₀.os
  bare : AllBare s.gens
  base : Un X.fs X.ex X.H₀ H X.s₀.heap s.heap
  loc : ∃ m, s.heap.Ns X.env.locals m ∧ ∀ (i : Nat) (x : Str) (v : V), X.N[i]? = some x → σ[i]? = some (some v) → Vis X.env.scope x → ∃ u, RelV v u ∧ Look X.env s.heap m x u
  cell : ∀ x c, X.env.cells.lookup x = some c → ∃ v, s.heap.IsCell c v
  free : H X.env.locals = none
  freeC : ∀ x c, X.env.cells.lookup x = some c → H c = none
  pin : ∀ p ∈ X.pn ++ pins, s.heap.get? p.1 = some p.2 ∧ H p.1 = none ∧ p.1 ≠ X.env.locals ∧ p.1 ∉ X.fs ∧ ∀ v, p.2.data ≠ .cell v
  hok : HOk X.prog X.w H s.heap
  len : σ.length = X.N.length

section
variable {X : Cx} {pins : List (Addr × Obj)} {σ : List (Option V)} {H H' : Hp} {s : Shared} {h' : Heap}

theorem Cx.Ok.nofr (ok : X.Ok) {b : Addr} {o : Obj} (e : X.base.get? b = some o) : b ∉ X.fs := fun hb => by
  have := (ok.funs.mem hb).1
  rw [e] at this; cases this
theorem Inv.bs (I : Inv X pins σ H s) : ∀ b o, X.base.get? b = some o → s.heap.get? b = some o ∧ H b = none := fun b o e =>
  ⟨I.base.keep b o (I.ok.bs b o e).1 (I.ok.bs b o e).2 (I.ok.nofr e) (I.ok.noex b o e), I.base.free b o (I.ok.bs b o e).1 (I.ok.bs b o e).2 (I.ok.noex b o e)⟩
theorem Inv.bk (I : Inv X pins σ H s) : ∀ b o, X.base.get? b = some o → s.heap.get? b = some o := fun b o e => (I.bs b o e).1
theorem Inv.mod (I : Inv X pins σ H s) : Mod X.K X.mg X.base := I.ok.mod
theorem Inv.kIn (I : Inv X pins σ H s) : X.K.In s.heap := I.ok.mod.kin.keeps I.bk
/-- the frame over the base: for OpenK's rules (K.In X.base is I.mod.kin) -/
theorem Inv.fr (I : Inv X pins σ H s) : ∃ m, Fr X.base X.env.locals s.heap m :=
  let ⟨m, hn, _⟩ := I.loc
  ⟨m, hn, I.bk, Nat.le_trans I.ok.bsz I.ok.above⟩
theorem Inv.lt (I : Inv X pins σ H s) : X.env.locals < s.heap.objs.size := let ⟨_, hn, _⟩ := I.loc; hn.lt
theorem Inv.sz (I : Inv X pins σ H s) : X.s₀.heap.objs.size ≤ s.heap.objs.size := Nat.le_trans I.ok.above (Nat.le_of_lt I.lt)
theorem Inv.nofs (I : Inv X pins σ H s) {a : Addr} (h : s.heap.objs.size ≤ a) : a ∉ X.fs := fun hb => by
  obtain ⟨_, o, ho, _⟩ := I.ok.funs.mem hb
  exact absurd (Nat.lt_of_lt_of_le (Heap.lt_size ho) (Nat.le_trans I.sz h)) (Nat.lt_irrefl _)
theorem Inv.cne (I : Inv X pins σ H s) : ∀ x c, X.env.cells.lookup x = some c → c ≠ X.env.locals := fun x c e z => by
  obtain ⟨v, o, ho, hd⟩ := I.cell x c e
  obtain ⟨m, ⟨o', es, ep, ho', hd', _⟩, _⟩ := I.loc
  rw [z, ho'] at ho; cases ho; rw [hd'] at hd; cases hd
theorem Inv.funs (I : Inv X pins σ H s) : s.heap.FunFrames X.base X.outer := by
  have all : ∀ (l : List Env), (∀ b ∈ frs l, b ∈ X.fs) → X.s₀.heap.FunFrames X.base l → s.heap.FunFrames X.base l := by
    intro l
    induction l with
    | nil => intro _ _; trivial
    | cons env r ih =>
      intro hs hl
      obtain ⟨hk, ⟨L, o, hf, hn, ho, hd⟩, hr⟩ := hl
      have hL : L ∈ X.fs := hs L (by unfold frs; rw [List.filterMap_cons, hf]; exact List.mem_cons_self)
      obtain ⟨sl, e⟩ := I.base.slot L o ho (I.ok.frf L hL) hL fun z => I.ok.exfs L z hL
      exact ⟨hk, ⟨L, _, hf, hn, e, hd⟩, ih (fun b hb => hs b (by unfold frs; rw [List.filterMap_cons, hf]; exact List.mem_cons_of_mem _ hb)) hr⟩
  exact all X.outer (fun _ hb => hb) I.ok.funs

/-- the frames that run, for a call -/
theorem Inv.stack (I : Inv X pins σ H s) : s.heap.FunFrames X.base X.stack := by
  rcases I.ok.stk with e | ⟨e, hf⟩
  · rw [e]; exact I.funs
  · rw [e]
    obtain ⟨m, hn, _⟩ := I.loc
    refine .cons (by rw [I.ok.kind]; decide) hf hn ?_ I.funs
    exact Heap.get?_none_of_le (Nat.le_trans I.ok.bsz I.ok.above)
theorem Inv.stkSub (I : Inv X pins σ H s) : ∀ b ∈ frs X.stack, b ∈ X.env.locals :: X.fs := fun b hb => by
  rcases I.ok.stk with e | ⟨e, hf⟩
  · rw [e] at hb; exact List.mem_cons_of_mem _ hb
  · rw [e] at hb
    unfold frs at hb
    rw [List.filterMap_cons, hf] at hb
    exact hb
theorem Inv.stkFree (I : Inv X pins σ H s) : ∀ b ∈ frs X.stack, H b = none := fun b hb => by
  rcases List.mem_cons.mp (I.stkSub b hb) with e | hb
  · rw [e]; exact I.free
  · obtain ⟨_, o, ho, _⟩ := I.ok.funs.mem hb
    exact I.base.free b o ho (I.ok.frf b hb) fun z => I.ok.exfs b z hb

/-- THE STEP: the untracked objects but the frame and the records at ch are kept (the callers' frames up to slots), the frame's map is kept, the new abstract heap is held -/
theorem Inv.step {g' : Array GenState} {t' : Nat} {d' : Drawn} {ch : List Addr} (I : Inv X pins σ H s)
    (hch : ∀ b ∈ ch, (b ∈ X.ex ∨ X.s₀.heap.objs.size ≤ b) ∧ b ≠ X.env.locals ∧ (∀ x c, X.env.cells.lookup x = some c → c ≠ b) ∧ ∀ p ∈ X.pn ++ pins, p.1 ≠ b)
    (keep : ∀ b o, b ≠ X.env.locals → b ∉ X.fs → b ∉ ch → s.heap.get? b = some o → H b = none → h'.get? b = some o)
    (slot : ∀ b o, b ≠ X.env.locals → b ∈ X.fs → b ∉ ch → s.heap.get? b = some o → H b = none → ∃ sl, h'.get? b = some { o with slots := sl }) (free : ∀ b o, b ∉ ch → s.heap.get? b = some o → H b = none → H' b = none)
    (there : ∀ b o, b ∉ ch → s.heap.get? b = some o → ∃ o', h'.get? b = some o')
    (tups : ∀ b xs, H b = some (.tup xs) → H' b = some (.tup xs)) (frzs : ∀ b o u, H b = some (.frz o u) → H' b = some (.frz o u)) (tbls : ∀ b ps, H b = some (.tbl ps) → ∃ more, H' b = some (.tbl (ps ++ more)))
    (ns : ∀ m, s.heap.Ns X.env.locals m → h'.Ns X.env.locals m) (hok : HOk X.prog X.w H' h') (hg : AllBare g') :
    Inv X pins σ H' { s with heap := h', gens := g', drawn := d', toks := t' } := by
  have neL : ∀ b o, X.s₀.heap.get? b = some o → b ≠ X.env.locals := fun b o e => Nat.ne_of_lt (Nat.lt_of_lt_of_le (Heap.lt_size e) I.ok.above)
  have neC : ∀ b o, X.s₀.heap.get? b = some o → b ∉ X.ex → b ∉ ch := fun b o e hx hb => by
    rcases (hch b hb).1 with z | z
    · exact hx z
    · exact absurd (Nat.lt_of_lt_of_le (Heap.lt_size e) z) (Nat.lt_irrefl _)
  have cellK : ∀ x c, X.env.cells.lookup x = some c → ∀ v, s.heap.IsCell c v → h'.IsCell c v := fun x c e v ⟨o, ho, hd⟩ => by
    have nch : c ∉ ch := fun z => (hch c z).2.2.1 x c e rfl
    by_cases hc : c ∈ X.fs
    · obtain ⟨sl, q⟩ := slot c o (I.cne x c e) hc nch ho (I.freeC x c e)
      exact ⟨_, q, hd⟩
    · exact ⟨o, keep c o (I.cne x c e) hc nch ho (I.freeC x c e), hd⟩
  refine ⟨I.ok, I.os, hg, ⟨fun b o e n hb hx => ?_, fun b o e n hb hx => ?_, fun b o e n hx => ?_, fun b o e hx => ?_, fun b xs e => tups b xs (I.base.tups b xs e), fun b o xs e => frzs b o xs (I.base.frzs b o xs e), fun b ps e => ?_⟩, ?_, fun x c e => ?_, ?_, fun x c e => ?_, fun p hp => ?_, hok, I.len⟩
  · exact keep b o (neL b o e) hb (neC b o e hx) (I.base.keep b o e n hb hx) (I.base.free b o e n hx)
  · obtain ⟨sl, e1⟩ := I.base.slot b o e n hb hx
    obtain ⟨sl', e2⟩ := slot b _ (neL b o e) hb (neC b o e hx) e1 (I.base.free b o e n hx)
    exact ⟨sl', e2⟩
  · obtain ⟨o', e1⟩ := I.base.there b o e hx
    exact free b o' (neC b o e hx) e1 (I.base.free b o e n hx)
  · obtain ⟨o', e1⟩ := I.base.there b o e hx
    exact there b o' (neC b o e hx) e1
  · obtain ⟨m1, e1⟩ := I.base.tbls b ps e
    obtain ⟨m2, e2⟩ := tbls b _ e1
    exact ⟨m1 ++ m2, by rw [e2, Array.append_assoc]⟩
  · obtain ⟨m, hn, hl⟩ := I.loc
    refine ⟨m, ns m hn, fun i x v e1 e2 e3 => ?_⟩
    obtain ⟨u, r, l⟩ := hl i x v e1 e2 e3
    refine ⟨u, r, ?_⟩
    rcases l with l | ⟨k, c, e, z⟩
    · exact .inl l
    · exact .inr ⟨k, c, e, cellK x c e _ z⟩
  · obtain ⟨v, z⟩ := I.cell x c e
    exact ⟨v, cellK x c e v z⟩
  · obtain ⟨m, ⟨o, _, _, ho, _⟩, _⟩ := I.loc
    exact free _ o (fun z => (hch _ z).2.1 rfl) ho I.free
  · obtain ⟨v, o, ho, hd⟩ := I.cell x c e
    exact free c o (fun z => (hch c z).2.2.1 x c e rfl) ho (I.freeC x c e)
  · obtain ⟨e, n, ne, nf, d⟩ := I.pin p hp
    have nch : p.1 ∉ ch := fun z => (hch p.1 z).2.2.2 p hp rfl
    exact ⟨keep p.1 p.2 ne nf nch e n, free p.1 p.2 nch e n, ne, nf, d⟩
/-- .. where the frame's own object is kept too -/
theorem Inv.un {t' : Nat} (I : Inv X pins σ H s) (u : Un X.fs [] H H' s.heap h') (hok : HOk X.prog X.w H' h') : Inv X pins σ H' { s with heap := h', toks := t' } := by
  obtain ⟨m, ⟨o, es, ep, ho, r⟩, _⟩ := id I.loc
  obtain ⟨sl, hL⟩ := u.any ho I.free (by simp)
  exact I.step (g' := s.gens) (d' := s.drawn) (ch := []) (fun _ z => nomatch z) (fun b o _ hb _ e n => u.keep b o e n hb (by simp)) (fun b o _ hb _ e n => u.slot b o e n hb (by simp)) (fun b o _ e n => u.free b o e n (by simp)) (fun b o _ e => u.there b o e (by simp)) u.tups u.frzs u.tbls (fun m' hm => by
    obtain ⟨o', es', ep', ho', r'⟩ := hm
    rw [ho] at ho'; cases ho'
    exact ⟨_, es', ep', hL, r'⟩) hok I.bare
/-- behind a call (or a comprehension's block): the slots of this frame may have changed too, the records at ch may have turned -/
theorem Inv.call {g' : Array GenState} {t' : Nat} {d' : Drawn} {ch : List Addr} (I : Inv X pins σ H s) (u : Un (frs X.stack) ch H H' s.heap h') (hok : HOk X.prog X.w H' h') (hg : AllBare g')
    (hch : ∀ b ∈ ch, (b ∈ X.ex ∨ X.s₀.heap.objs.size ≤ b) ∧ b ≠ X.env.locals ∧ (∀ x c, X.env.cells.lookup x = some c → c ≠ b) ∧ ∀ p ∈ X.pn ++ pins, p.1 ≠ b) :
    Inv X pins σ H' { s with heap := h', gens := g', drawn := d', toks := t' } := by
  obtain ⟨m, ⟨o, es, ep, ho, r⟩, _⟩ := id I.loc
  obtain ⟨sl, hL⟩ := u.any ho I.free fun z => (hch _ z).2.1 rfl
  exact I.step (ch := ch) hch (fun b o hL hb hc e n => u.keep b o e n (fun z => (List.mem_cons.mp (I.stkSub b z)).elim hL hb) hc) (fun b o _ _ hc e n => u.any e n hc) (fun b o hc e n => u.free b o e n hc) (fun b o hc e => u.there b o e hc) u.tups u.frzs u.tbls (fun m' hm => by
    obtain ⟨o', es', ep', ho', r'⟩ := hm
    rw [ho] at ho'; cases ho'
    exact ⟨_, es', ep', hL, r'⟩) hok hg
/-- an untracked record of ours (an iterator) has turned -/
theorem Inv.turned {t' : Nat} {it : Addr} (I : Inv X pins σ H s) (k : ∀ b o, b ≠ it → s.heap.get? b = some o → h'.get? b = some o) (hn : H it = none) (hL : it ≠ X.env.locals)
    (h1 : it ∈ X.ex ∨ X.s₀.heap.objs.size ≤ it) (h2 : ∀ x c, X.env.cells.lookup x = some c → c ≠ it) (h3 : ∀ p ∈ X.pn ++ pins, p.1 ≠ it) : Inv X pins σ H { s with heap := h', toks := t' } := by
  have nit : ∀ b u, H b = some u → b ≠ it := fun b u e z => by rw [z, hn] at e; cases e
  refine I.step (g' := s.gens) (d' := s.drawn) (ch := [it]) (fun b hb => ?_) (fun b o _ _ hc e _ => k b o (fun z => hc (by simp [z])) e) (fun b o _ _ hc e _ => ⟨o.slots, k b o (fun z => hc (by simp [z])) e⟩) (fun _ _ _ _ n => n)
    (fun b o hc e => ⟨o, k b o (fun z => hc (by simp [z])) e⟩) (fun _ _ e => e) (fun _ _ _ e => e) (fun b ps e => ⟨#[], by rw [e]; simp⟩) (fun m hm => ?_) (fun b u e => ?_) I.bare
  · have e : b = it := by simpa using hb
    subst e
    exact ⟨h1, hL, h2, h3⟩
  · obtain ⟨o, es, ep, ho, r⟩ := hm
    exact ⟨o, es, ep, k _ o (Ne.symm hL) ho, r⟩
  · refine (I.hok b u e).stay (fun c v hc q => k c v ?_ q) (fun _ q => q) fun _ _ q => q
    rcases hc with z | z
    · rw [z]; exact nit b u e
    · exact nit c _ z
theorem Inv.tok (I : Inv X pins σ H s) (t : Nat) : Inv X pins σ H { s with toks := t } := I.un (h' := s.heap) (t' := t) Un.refl I.hok
/-- all objects kept -/
theorem Inv.kept {t' : Nat} (I : Inv X pins σ H s) (k : ∀ b u, s.heap.get? b = some u → h'.get? b = some u) : Inv X pins σ H { s with heap := h', toks := t' } := I.un (Un.kept k) (I.hok.kept k)
/-- a new object laid and tracked -/
theorem Inv.laid {a : Addr} {o : HO} {t' : Nat} (I : Inv X pins σ H s) (k : ∀ b u, s.heap.get? b = some u → h'.get? b = some u) (hp : s.heap.objs.size ≤ a) (new : ObjOk X.prog X.w (upd H a o) h' a o) :
    Inv X pins σ (upd H a o) { s with heap := h', toks := t' } := I.un (Un.laid k hp (I.hok.fresh hp)) (I.hok.laid k hp new)
/-- an object written -/
theorem Inv.write {x e : Addr} {o : HO} {t' : Nat} (I : Inv X pins σ H s) (mu : Mut (H x)) (he : e = x ∨ H e = some (.own x)) (k : ∀ b u, b ≠ e → s.heap.get? b = some u → h'.get? b = some u) (heo : ∃ u, h'.get? e = some u)
    (new : ObjOk X.prog X.w (upd H x o) h' x o) : Inv X pins σ (upd H x o) { s with heap := h', toks := t' } := I.un (Un.write mu he k heo) (I.hok.write mu he k heo new)
/-- forgetting slots, pins -/
theorem Inv.weak {σ' : List (Option V)} (I : Inv X pins σ H s) (hl : σ'.length = σ.length) (w : ∀ (i : Nat) v, σ'[i]? = some (some v) → σ[i]? = some (some v)) : Inv X pins σ' H s :=
  ⟨I.ok, I.os, I.bare, I.base, let ⟨m, hn, hl'⟩ := I.loc; ⟨m, hn, fun i x v e1 e2 e3 => hl' i x v e1 (w i v e2) e3⟩, I.cell, I.free, I.freeC, I.pin, I.hok, hl.trans I.len⟩
theorem Inv.pins_of {pins' : List (Addr × Obj)} (I : Inv X pins σ H s) (h : ∀ p ∈ pins', s.heap.get? p.1 = some p.2 ∧ H p.1 = none ∧ p.1 ≠ X.env.locals ∧ p.1 ∉ X.fs ∧ ∀ v, p.2.data ≠ .cell v) : Inv X pins' σ H s :=
  ⟨I.ok, I.os, I.bare, I.base, I.loc, I.cell, I.free, I.freeC, fun p hp => (List.mem_append.mp hp).elim (fun z => I.pin p (List.mem_append_left _ z)) (h p), I.hok, I.len⟩

theorem nodup_ix {N : List Str} (hN : N.Nodup) {i j : Nat} {x : Str} (a : N[i]? = some x) (b : N[j]? = some x) : i = j := by
  obtain ⟨h1, e1⟩ := List.getElem?_eq_some_iff.mp a
  obtain ⟨h2, e2⟩ := List.getElem?_eq_some_iff.mp b
  exact (List.getElem_inj hN).mp (e1.trans e2.symm)

/-- a name is stored; what changed -/
theorem store_ok2 {M : Model} {A : Around} {E : Value → Shared → Prop} {i : Nat} {x : Str} {v : V} {u : Value} {Q : Unit → Shared → Prop} (I : Inv X pins σ H s) (hN : X.N.Nodup) (hi : X.N[i]? = some x) (hx : Loc X.env.scope x) (r : RelV v u)
    (h : ∀ s', Inv X pins (σ.set i (some v)) H s' → (∃ a, Heap.SameBut a s.heap s'.heap ∧ (a = X.env.locals ∨ X.env.cells.lookup x = some a)) → Q () s') (hf : X.fn x = true ∨ X.env.scope.names.lookup x = some .local := by first | exact .inl rfl | exact .inr rfl | assumption) : wpAny M A (storeName X.env x u) Q E s := by
  obtain ⟨m, hn, hl⟩ := id I.loc
  have hcls : (X.env.scope.kind == .class || (X.env.scope.kind == .module && X.env.locals != X.env.globals)) = false := by rw [I.ok.kind]; rfl
  have hiσ : i < σ.length := by rw [I.len]; exact (List.getElem?_eq_some_iff.mp hi).1
  have cne := I.cne
  have tracked : ∀ {a : Addr} {h' : Heap}, (∃ o, s.heap.get? a = some o ∧ H a = none) → Heap.SameBut a s.heap h' → HOk X.prog X.w H h' := fun {a h'} ha hs b ob e => by
    obtain ⟨_, _, hfree⟩ := ha
    refine (I.hok b ob e).stay (fun c w' hc q => (hs.2 c ?_).trans q) (fun _ q => q) fun _ _ q => q
    rintro rfl
    rcases hc with rfl | hc
    · rw [hfree] at e; cases e
    · rw [hfree] at hc; cases hc
  rcases hx with hk | hk
  · refine wpAny_storeName_local hk hn (fun h' hn' hs => ?_) hcls
    obtain ⟨oL, _, _, hoL, _⟩ := id hn
    refine h _ ⟨I.ok, I.os, I.bare, ⟨fun b o e n hb hx => ?_, fun b o e n hb hx => ?_, I.base.free, fun b o e hx => ?_, I.base.tups, I.base.frzs, I.base.tbls⟩, ⟨_, hn', fun j y v' e1 e2 e3 => ?_⟩, fun y c e => ?_, I.free, I.freeC, fun p hp => ?_, tracked ⟨oL, hoL, I.free⟩ hs, by simpa using I.len⟩ ⟨_, hs, .inl rfl⟩
    · exact (hs.2 b (Nat.ne_of_lt (Nat.lt_of_lt_of_le (Heap.lt_size e) I.ok.above))).trans (I.base.keep b o e n hb hx)
    · obtain ⟨sl, e1⟩ := I.base.slot b o e n hb hx
      exact ⟨sl, (hs.2 b (Nat.ne_of_lt (Nat.lt_of_lt_of_le (Heap.lt_size e) I.ok.above))).trans e1⟩
    · obtain ⟨o', e1⟩ := I.base.there b o e hx
      exact ⟨o', (hs.2 b (Nat.ne_of_lt (Nat.lt_of_lt_of_le (Heap.lt_size e) I.ok.above))).trans e1⟩
    · by_cases hj : j = i
      · subst hj
        rw [hi] at e1; cases e1
        rw [List.getElem?_set_self hiσ] at e2
        cases e2
        exact ⟨u, r, .inl ⟨hk, by simp⟩⟩
      · rw [List.getElem?_set_ne (Ne.symm hj)] at e2
        obtain ⟨u', r', q⟩ := hl j y v' e1 e2 e3
        refine ⟨u', r', ?_⟩
        rcases q with ⟨k, e⟩ | ⟨k, c, e, z⟩
        · refine .inl ⟨k, ?_⟩
          have : y ≠ x := fun e => hj (nodup_ix hN e1 (e ▸ hi))
          simp [this, e]
        · exact .inr ⟨k, c, e, z.sameBut hs (cne y c e)⟩
    · obtain ⟨w', z⟩ := I.cell y c e
      exact ⟨w', z.sameBut hs (cne y c e)⟩
    · obtain ⟨e, n, ne, nf, d⟩ := I.pin p hp
      exact ⟨(hs.2 p.1 ne).trans e, n, ne, nf, d⟩
  · have hfn : X.fn x = true := by
      rcases hf with z | z
      · exact z
      · rw [z] at hk; cases hk
    obtain ⟨c, hc⟩ := I.ok.has x (.inl hk)
    obtain ⟨w', z⟩ := I.cell x c hc
    refine wpAny_storeName_cell I.ok.kind hk hc z (fun h' hc' hs => ?_)
    obtain ⟨oc, hoc, hocd⟩ := id z
    refine h { s with heap := h' } ⟨I.ok, I.os, I.bare, ⟨fun b o e n hb hx => ?_, fun b o e n hb hx => ?_, I.base.free, fun b o e hx => ?_, I.base.tups, I.base.frzs, I.base.tbls⟩, ⟨m, hn.sameBut hs (Ne.symm (cne x c hc)), fun j y v' e1 e2 e3 => ?_⟩, fun y c' e => ?_, I.free, I.freeC, fun p hp => ?_, tracked ⟨oc, hoc, I.freeC x c hc⟩ hs, by simpa using I.len⟩ ⟨c, hs, .inr hc⟩
    · exact (hs.2 b (Nat.ne_of_lt (Nat.lt_of_lt_of_le (Heap.lt_size e) (I.ok.cab x c hfn hc)))).trans (I.base.keep b o e n hb hx)
    · obtain ⟨sl, e1⟩ := I.base.slot b o e n hb hx
      exact ⟨sl, (hs.2 b (Nat.ne_of_lt (Nat.lt_of_lt_of_le (Heap.lt_size e) (I.ok.cab x c hfn hc)))).trans e1⟩
    · obtain ⟨o', e1⟩ := I.base.there b o e hx
      exact ⟨o', (hs.2 b (Nat.ne_of_lt (Nat.lt_of_lt_of_le (Heap.lt_size e) (I.ok.cab x c hfn hc)))).trans e1⟩
    · by_cases hj : j = i
      · subst hj
        rw [hi] at e1; cases e1
        rw [List.getElem?_set_self hiσ] at e2
        cases e2
        exact ⟨u, r, .inr ⟨.inl hk, c, hc, hc'⟩⟩
      · rw [List.getElem?_set_ne (Ne.symm hj)] at e2
        obtain ⟨u', r', q⟩ := hl j y v' e1 e2 e3
        refine ⟨u', r', ?_⟩
        rcases q with q | ⟨k, c', e, z'⟩
        · exact .inl q
        · refine .inr ⟨k, c', e, z'.sameBut hs ?_⟩
          rintro rfl
          exact hj (nodup_ix hN e1 (I.ok.inj _ _ _ e hc ▸ hi))
    · by_cases hcc : c' = c
      · subst hcc; exact ⟨_, hc'⟩
      · obtain ⟨w2, z2⟩ := I.cell y c' e
        exact ⟨w2, z2.sameBut hs hcc⟩
    · obtain ⟨e, n, ne, nf, d⟩ := I.pin p hp
      refine ⟨(hs.2 p.1 ?_).trans e, n, ne, nf, d⟩
      intro q
      rw [q, hoc] at e
      have q' : oc = p.2 := Option.some.inj e
      exact d w' (by rw [← q']; exact hocd)
theorem store_ok {M : Model} {A : Around} {E : Value → Shared → Prop} {i : Nat} {x : Str} {v : V} {u : Value} {Q : Unit → Shared → Prop} (I : Inv X pins σ H s) (hN : X.N.Nodup) (hi : X.N[i]? = some x) (hx : Loc X.env.scope x) (r : RelV v u)
    (h : ∀ s', Inv X pins (σ.set i (some v)) H s' → Q () s') (hf : X.fn x = true ∨ X.env.scope.names.lookup x = some .local := by first | exact .inl rfl | exact .inr rfl | assumption) : wpAny M A (storeName X.env x u) Q E s :=
  store_ok2 I hN hi hx r (fun s' I' _ => h s' I') hf
/-- behind a call or a block, the state as it is -/
theorem Inv.call' {s' : Shared} {ch : List Addr} (I : Inv X pins σ H s) (ho : s'.os = s.os) (u : Un (frs X.stack) ch H H' s.heap s'.heap) (hok : HOk X.prog X.w H' s'.heap) (hg : AllBare s'.gens)
    (hch : ∀ b ∈ ch, (b ∈ X.ex ∨ X.s₀.heap.objs.size ≤ b) ∧ b ≠ X.env.locals ∧ (∀ x c, X.env.cells.lookup x = some c → c ≠ b) ∧ ∀ p ∈ X.pn ++ pins, p.1 ≠ b) : Inv X pins σ H' s' := by
  obtain ⟨h', g', d', t', o'⟩ := s'
  have e : o' = s.os := ho
  subst e
  exact I.call (g' := g') (t' := t') (d' := d') u hok hg hch
end

/-! ### the judgements -/
/-- an exception: its class, its own dict's address (where it has one), the abstract heap behind it -/
abbrev XK := Value → Option Addr → Hp → Prop
abbrev St := List (Option V)
abbrev VK := V → Hp → Prop
/-- an expression's reading; a test's; an argument list's -/
abbrev TE := St → Hp → VK → Prop
abbrev TT := St → Hp → (Bool → Hp → Prop) → Prop
abbrev TA := St → Hp → (List V → Hp → Prop) → Prop
/-- what is wanted behind a statement -/
structure Ends where
  nx : St → Hp → Prop
  rt : VK
  bk : St → Hp → Prop := fun _ _ => False
  ct : St → Hp → Prop := fun _ _ => False
abbrev TS := Ends → St → Hp → Prop

inductive EP (X : Cx) (pins : List (Addr × Obj)) (σ : St) (Q : VK) (u : Value) (s' : Shared) : Prop
  | mk (v : V) (H' : Hp) (i : Inv X pins σ H' s') (r : RelV v u) (q : Q v H') : EP X pins σ Q u s'
def TP (X : Cx) (pins : List (Addr × Obj)) (σ : St) (Q : Bool → Hp → Prop) (b : Bool) (s' : Shared) : Prop := ∃ H', Inv X pins σ H' s' ∧ Q b H'
inductive AP (X : Cx) (pins : List (Addr × Obj)) (σ : St) (Q : List V → Hp → Prop) (us : List Value) (s' : Shared) : Prop
  | mk (vs : List V) (H' : Hp) (i : Inv X pins σ H' s') (r : Vals vs us) (q : Q vs H') : AP X pins σ Q us s'
def SP (X : Cx) (pins : List (Addr × Obj)) (D : Ends) (f : Flow) (s' : Shared) : Prop :=
  match f with
  | .next => ∃ σ' H', Inv X pins σ' H' s' ∧ D.nx σ' H'
  | .brk => ∃ σ' H', Inv X pins σ' H' s' ∧ D.bk σ' H'
  | .cont => ∃ σ' H', Inv X pins σ' H' s' ∧ D.ct σ' H'
  | .ret u => ∃ v σ' H', Inv X pins σ' H' s' ∧ RelV v u ∧ D.rt v H'

def PE (X : Cx) (e : Expr) (t : TE) : Prop :=
  ∀ (pins : List (Addr × Obj)) (s : Shared) (σ : St) (H : Hp) (Q : VK), Inv X pins σ H s → t σ H Q → wpAny (model X.prog X.w) X.A (eval e X.env) (EP X pins σ Q) X.xe s
def PT (X : Cx) (e : Expr) (t : TT) : Prop :=
  ∀ (pins : List (Addr × Obj)) (s : Shared) (σ : St) (H : Hp) (Q : Bool → Hp → Prop), Inv X pins σ H s → t σ H Q → wpAny (model X.prog X.w) X.A (isTrue e X.env (eval e X.env)) (TP X pins σ Q) X.xe s
/-- a test whatever its 'whole' is (and, or) -/
def PW (X : Cx) (e : Expr) (t : TT) : Prop :=
  ∀ (whole : Sem Value) (pins : List (Addr × Obj)) (s : Shared) (σ : St) (H : Hp) (Q : Bool → Hp → Prop), Inv X pins σ H s → t σ H Q → wpAny (model X.prog X.w) X.A (isTrue e X.env whole) (TP X pins σ Q) X.xe s
theorem PW.pt {X : Cx} {e : Expr} {t : TT} (h : PW X e t) : PT X e t := h _
/-- an argument list (no star), from the left -/
def PA (X : Cx) (es : List Expr) (t : TA) : Prop :=
  ∀ (pos : Pos) (pins : List (Addr × Obj)) (s : Shared) (σ : St) (H : Hp) (Q : List V → Hp → Prop), Inv X pins σ H s → t σ H Q → wpAny (model X.prog X.w) X.A (spliced (backTo pos (starEach es X.env))) (AP X pins σ Q) X.xe s
def PS (X : Cx) (st : Stmt) (t : TS) : Prop :=
  ∀ (pins : List (Addr × Obj)) (s : Shared) (σ : St) (H : Hp) (D : Ends), Inv X pins σ H s → t D σ H → wpAny (model X.prog X.w) X.A (exec st X.env) (SP X pins D) X.xe s
def PSs (X : Cx) (st : List Stmt) (t : TS) : Prop :=
  ∀ (pins : List (Addr × Obj)) (s : Shared) (σ : St) (H : Hp) (D : Ends), Inv X pins σ H s → t D σ H → wpAny (model X.prog X.w) X.A (execs st X.env) (SP X pins D) X.xe s
/-- weaken the end -/
theorem thn {α : Type} {t : Sem α} {Q Q' : α → Shared → Prop} {M : Model} {A : Around} {E : Value → Shared → Prop} {s : Shared} (h : wpAny M A t Q E s) (hQ : ∀ a s, Q a s → Q' a s) : wpAny M A t Q' E s := wpAny_mono h hQ fun _ _ x => x
end L2

namespace L2
open PySem PySem.Spec PyProof.Rows
section
variable {X : Cx}

/-! ### names and constants -/
inductive VarR (i : Nat) (σ : St) (H : Hp) (Q : VK) : Prop
  | mk (v : V) (e : σ[i]? = some (some v)) (q : Q v H) : VarR i σ H Q
def tVar (i : Nat) : TE := fun σ H Q => VarR i σ H Q
def tC (v : V) : TE := fun _ H Q => Q v H
theorem pe_var {i : Nat} {x : Str} {pos : Pos} (hN : X.N[i]? = some x) (hv : Vis X.env.scope x) (hd : (x == ("__debug__" : Str)) = false := by decide) (hcd : (x == ("__classdict__" : Str)) = false := by decide) : PE X (.Name x pos) (tVar i) := by
  intro pins s σ H Q I h
  obtain ⟨v, e, h⟩ := h
  obtain ⟨m, hn, hl⟩ := I.loc
  obtain ⟨u, r, l⟩ := hl i x v hN e hv
  have fin : EP X pins σ Q u s := ⟨v, H, I, r, h⟩
  rcases l with ⟨hk, hm⟩ | ⟨hk, c, hc, hcell⟩
  · exact wpAny_Name (wpAny_loadName_local I.ok.kind hk hn hm fin) hd
  · rcases hk with hk | hk
    · exact wpAny_Name (wpAny_loadName_cell I.ok.kind hk hc hcell fin) hd
    · exact wpAny_Name (wpAny_loadName_free I.ok.kind hk hc hcell fin hcd) hd
theorem pe_int {i j pos} : PE X (.Constant (.int i) j pos) (tC (.int i)) := fun _ _ _ H _ I h => wpAny_Constant_int ⟨.int i, H, I.tok _, ⟨_, rfl⟩, h⟩
theorem pe_bl {b j pos} : PE X (.Constant (.bool b) j pos) (tC (.bl b)) := fun _ _ _ H _ I h => Constant_bool ⟨.bl b, H, I, rfl, h⟩
theorem pe_str {x j pos} : PE X (.Constant (.str x) j pos) (tC (.str x)) := fun _ _ _ H _ I h => Calls.Constant_str ⟨.str x, H, I.tok _, ⟨_, rfl⟩, h⟩

/-- a global name of the def -/
def Gl (X : Cx) (x : Str) : Prop := X.env.kindOf x = some .globalImplicit
theorem ld_glob {E : Value → Shared → Prop} {pins : List (Addr × Obj)} {s : Shared} {σ : St} {H : Hp} {x : Str} {u : Value} {pos : Pos} {Q : Value → Shared → Prop} (I : Inv X pins σ H s) (hg : Gl X x) (hm : X.mg x = some u) (h : Q u s)
    (hd : (x == ("__debug__" : Str)) = false := by decide) : wpAny (model X.prog X.w) X.A (eval (.Name x pos) X.env) Q E s :=
  Calls.Name_function_global I.ok.kind hg (Calls.loadGlobal_global (by rw [I.ok.glob]; exact I.mod.glob.keeps I.bk) hm h) hd
theorem ld_blt {E : Value → Shared → Prop} {pins : List (Addr × Obj)} {s : Shared} {σ : St} {H : Hp} {x : Str} {u : Value} {pos : Pos} {Q : Value → Shared → Prop} (I : Inv X pins σ H s) (hg : Gl X x) (hm : X.mg x = none) (hv : bootBuiltins x = some u) (h : Q u s)
    (hn : x ≠ "__name__" := by decide) (hd : (x == ("__debug__" : Str)) = false := by decide) : wpAny (model X.prog X.w) X.A (eval (.Name x pos) X.env) Q E s := by
  obtain ⟨mb, h1, h2⟩ := I.mod.blt
  exact Calls.Name_function_global I.ok.kind hg (Calls.loadGlobal_builtin (by rw [I.ok.glob]; exact I.mod.glob.keeps I.bk) hm (by rw [I.ok.blt]; exact h1.keeps I.bk) ((h2 x hn).trans hv) h) hd
/-- a module's constant, a class, a function, as a value -/
theorem pe_glob {x : Str} {v : V} {u : Value} {pos : Pos} (hg : Gl X x) (hm : X.mg x = some u) (r : RelV v u) (hd : (x == ("__debug__" : Str)) = false := by decide) : PE X (.Name x pos) (tC v) :=
  fun _ _ _ H _ I h => ld_glob I hg hm ⟨v, H, I, r, h⟩ hd
theorem pe_bltn {x : Str} {v : V} {u : Value} {pos : Pos} (hg : Gl X x) (hm : X.mg x = none) (hv : bootBuiltins x = some u) (r : RelV v u) (hn : x ≠ "__name__" := by decide) (hd : (x == ("__debug__" : Str)) = false := by decide) : PE X (.Name x pos) (tC v) :=
  fun _ _ _ H _ I h => ld_blt I hg hm hv ⟨v, H, I, r, h⟩ hn hd

/-! ### arithmetic -/
variable {a b : Expr} {ta tb : TE} {pos : Pos}
/-! ### comparisons -/
def PC (X : Cx) (op : CmpOp) (a b : Expr) (t : TE) : Prop :=
  ∀ (pins : List (Addr × Obj)) (s : Shared) (σ : St) (H : Hp) (Q : VK), Inv X pins σ H s → t σ H Q →
    wpAny (model X.prog X.w) X.A (eval a X.env) (fun v s₁ => wpAny (model X.prog X.w) X.A (eval b X.env) (fun u s₂ => wpAny (model X.prog X.w) X.A (compareOp op v u) (EP X pins σ Q) X.xe s₂) X.xe s₁) X.xe s
theorem nobehind (b : Expr) {op : CmpOp} (h : op ≠ .In) (h2 : op ≠ .NotIn) : behindInMarks op b = false := by
  have e1 : (op == CmpOp.In) = false := by cases op <;> first | rfl | exact absurd rfl h
  have e2 : (op == CmpOp.NotIn) = false := by cases op <;> first | rfl | exact absurd rfl h2
  cases b <;> simp [behindInMarks, e1, e2]
/-- is None -/
def tIsN (ta : TE) : TE := fun σ H Q => ta σ H fun x H1 => Q (.bl (decide (x = .non))) H1
def tNotN (ta : TE) : TE := fun σ H Q => ta σ H fun x H1 => Q (.bl (!decide (x = .non))) H1
theorem RelV.none_iff {x : V} {v : Value} (r : RelV x v) : (v == Value.none) = decide (x = .non) := by
  cases x with
  | non => cases r; rfl
  | bl _ => cases r; rfl
  | int _ => obtain ⟨t, rfl⟩ := r; rfl
  | str _ => obtain ⟨t, rfl⟩ := r; rfl
  | byt _ => obtain ⟨t, rfl⟩ := r; rfl
  | flt _ => obtain ⟨t, rfl⟩ := r; rfl
  | ref _ => cases r; rfl
  | ty _ => cases r; rfl
theorem pc_isN {j pos'} (ha : PE X a ta) : PC X .Is a (.Constant .none j pos') (tIsN ta) := by
  intro pins s σ H Q I h
  refine thn (ha pins s σ H _ I h) fun v s1 ⟨x, H1, I1, r1, q1⟩ => ?_
  exact Constant_none (is_none_gen ⟨.bl _, H1, I1, by rw [r1.none_iff]; rfl, q1⟩)
theorem pc_notN {j pos'} (ha : PE X a ta) : PC X .IsNot a (.Constant .none j pos') (tNotN ta) := by
  intro pins s σ H Q I h
  refine thn (ha pins s σ H _ I h) fun v s1 ⟨x, H1, I1, r1, q1⟩ => ?_
  exact Constant_none (isnot_none_gen ⟨.bl _, H1, I1, by rw [r1.none_iff]; rfl, q1⟩)
/-- a comparison as a value, as a test -/
def tB (t : TE) : TT := fun σ H Q => t σ H fun x H1 => ∃ c, x = .bl c ∧ Q c H1
theorem pt_cmp {op : CmpOp} {t : TE} (h : PC X op a b t) (h1 : behindInMarks op b = false := by first | exact nobehind _ (by decide) (by decide) | rfl) : PT X (.Compare a [op] [b] pos) (tB t) := by
  intro pins s σ H Q I hw
  refine wpAny_isTrue_Compare1 (thn (h pins s σ H _ I hw) fun v s1 h1 => thn h1 fun u s2 h2 => thn h2 fun c s3 ⟨x, H1, I1, r1, q1⟩ => ?_) h1
  obtain ⟨d, rfl, q⟩ := q1
  cases r1
  exact wpAny_truthy_bool ⟨H1, I1, q⟩
/-- an expression whose value is a bool, as a test -/
theorem pt_val {e : Expr} {t : TE} (h : PE X e t) (he : ∀ whole, isTrue e X.env whole = (do let v ← whole; standAt e.pos; holding [v] (truthy v)) := by intro _; rfl) : PT X e (tB t) := by
  intro pins s σ H Q I hw
  refine isTrue_plain (thn (h pins s σ H _ I hw) fun v s1 ⟨x, H1, I1, r1, q1⟩ => ?_) (he _)
  obtain ⟨d, rfl, q⟩ := q1
  cases r1
  exact wpAny_truthy_bool ⟨H1, I1, q⟩

/-! ### and, or, not -/
variable {tA tB' : TT} {rest : List Expr}
def tAnd (t u : TT) : TT := fun σ H Q => t σ H fun c H1 => if c = true then u σ H1 Q else Q false H1
def tOr (t u : TT) : TT := fun σ H Q => t σ H fun c H1 => if c = true then Q true H1 else u σ H1 Q
def tNot (t : TT) : TT := fun σ H Q => t σ H fun c H1 => Q (!c) H1
theorem pw_and1 (ha : PT X a tA) : PW X (.BoolOp .And [a] pos) tA := by
  intro wh pins s σ H Q I h
  refine isTrue_and (thn (ha pins s σ H Q I h) fun c s1 e => ?_)
  cases c with
  | true => exact isTrue_and_nil e
  | false => exact e
theorem pw_or1 (ha : PT X a tA) : PW X (.BoolOp .Or [a] pos) tA := by
  intro wh pins s σ H Q I h
  refine isTrue_or (thn (ha pins s σ H Q I h) fun c s1 e => ?_)
  cases c with
  | false => exact isTrue_or_nil e
  | true => exact e
theorem pw_and (ha : PT X a tA) (hb : PW X (.BoolOp .And (b :: rest) pos) tB') : PW X (.BoolOp .And (a :: b :: rest) pos) (tAnd tA tB') := by
  intro wh pins s σ H Q I h
  refine isTrue_and (thn (ha pins s σ H _ I h) fun c s1 ⟨H1, I1, q1⟩ => ?_)
  cases c with
  | true => exact hb wh pins s1 σ H1 Q I1 q1
  | false => exact ⟨H1, I1, q1⟩
theorem pw_or (ha : PT X a tA) (hb : PW X (.BoolOp .Or (b :: rest) pos) tB') : PW X (.BoolOp .Or (a :: b :: rest) pos) (tOr tA tB') := by
  intro wh pins s σ H Q I h
  refine isTrue_or (thn (ha pins s σ H _ I h) fun c s1 ⟨H1, I1, q1⟩ => ?_)
  cases c with
  | true => exact ⟨H1, I1, q1⟩
  | false => exact hb wh pins s1 σ H1 Q I1 q1
theorem pt_not (ha : PT X a tA) : PT X (.UnaryOp .Not a pos) (tNot tA) := by
  intro pins s σ H Q I h
  exact isTrue_not (ha pins s σ H (fun c H1 => Q (!c) H1) I h)
/-- a if t else b -/
def tIf (t : TT) (ta tb : TE) : TE := fun σ H Q => t σ H fun c H1 => if c = true then ta σ H1 Q else tb σ H1 Q
theorem pe_ifExp {c : Expr} (hc : PT X c tA) (ha : PE X a ta) (hb : PE X b tb) : PE X (.IfExp c a b pos) (tIf tA ta tb) := by
  intro pins s σ H Q I h
  refine wpAny_IfExp (thn (hc pins s σ H _ I h) fun d s1 ⟨H1, I1, q1⟩ => ?_)
  cases d with
  | true => exact ha pins s1 σ H1 Q I1 q1
  | false => exact hb pins s1 σ H1 Q I1 q1
end
end L2

namespace L2
open PySem PySem.Spec PyProof.Rows

/-! ### a list, a tuple that is read: tracked, frozen, or an object of the module -/
def SqL (K : PySem.W.Frag) (H : Hp) (a : Addr) (xs : List V) : Prop :=
  Rd H a (.lst xs) ∨
    ∃ (o : Obj) (its : Array Value) (n : Nat), K.lookup a = some o ∧ o.cls = .type "list" ∧ o.dict = none ∧ o.data = .seq its n ∧ its.size ≤ sizeLine ∧ Vals xs its.toList
def SqT (K : PySem.W.Frag) (H : Hp) (a : Addr) (xs : List V) : Prop :=
  Rd H a (.tup xs) ∨
    ∃ (o : Obj) (its : Array Value) (n : Nat), K.lookup a = some o ∧ o.cls = .type "tuple" ∧ o.data = .seq its n ∧ its.size ≤ sizeLine ∧ Vals xs its.toList
def absV : Value → Option V
  | .none => some .non
  | .bool b => some (.bl b)
  | .int i _ => some (.int i)
  | .str x _ => some (.str x)
  | .bytes b _ => some (.byt b)
  | .float b _ => some (.flt b)
  | .ref a => some (.ref a)
  | .type n => some (.ty n)
  | _ => none
theorem RelV.abs {x : V} {u : Value} (r : RelV x u) : absV u = some x := by
  cases x with
  | non => cases r; rfl
  | bl _ => cases r; rfl
  | int _ => obtain ⟨t, rfl⟩ := r; rfl
  | str _ => obtain ⟨t, rfl⟩ := r; rfl
  | byt _ => obtain ⟨t, rfl⟩ := r; rfl
  | flt _ => obtain ⟨t, rfl⟩ := r; rfl
  | ref _ => cases r; rfl
  | ty _ => cases r; rfl
theorem RelV.inj {x y : V} {u : Value} (r : RelV x u) (q : RelV y u) : x = y := Option.some.inj (r.abs.symm.trans q.abs)
theorem Vals.inj : ∀ {xs ys : List V} {us : List Value}, Vals xs us → Vals ys us → xs = ys
  | _, _, _, .nil, .nil => rfl
  | _, _, _, .cons r t, .cons r' t' => by rw [r.inj r', Vals.inj t t']
section
variable {X : Cx} {pins : List (Addr × Obj)} {σ : St} {H : Hp} {s : Shared} {a : Addr} {xs ys : List V}
theorem SqL.of {K : PySem.W.Frag} (h : H a = some (.lst xs)) : SqL K H a xs := .inl (.inl h)
theorem SqT.of {K : PySem.W.Frag} (h : H a = some (.tup xs)) : SqT K H a xs := .inl (.inl h)
theorem Inv.list (I : Inv X pins σ H s) (h : SqL X.K H a xs) : ∃ its : List Value, Vals xs its ∧ PlainL s.heap a its.toArray ∧ xs.length ≤ sizeLine := by
  rcases h with h | ⟨o, its, n, hk, hc, hd, hs, hz, r⟩
  · obtain ⟨z, its, n, r, e⟩ := h.ok I.hok
    exact ⟨its, r, ⟨_, n, e, rfl, rfl, rfl⟩, z⟩
  · refine ⟨its.toList, r, ⟨o, n, I.kIn a o hk, hc, hd, by simpa using hs⟩, ?_⟩
    have e := r.length
    simp only [Array.length_toList] at e
    omega
theorem Inv.tuple (I : Inv X pins σ H s) (h : SqT X.K H a xs) : ∃ its : List Value, Vals xs its ∧ IsTup s.heap a its.toArray ∧ xs.length ≤ sizeLine := by
  rcases h with h | ⟨o, its, n, hk, hc, hs, hz, r⟩
  · obtain ⟨z, its, r, p⟩ := h.ok I.hok
    exact ⟨its, r, p, z⟩
  · refine ⟨its.toList, r, ⟨o, I.kIn a o hk, hc, n, by simpa using hs⟩, ?_⟩
    have e := r.length
    simp only [Array.length_toList] at e
    omega
theorem Inv.list_inj (I : Inv X pins σ H s) (h : SqL X.K H a xs) (h' : SqL X.K H a ys) : xs = ys := by
  obtain ⟨its, r, ⟨o, n, e, _, _, d⟩, _⟩ := I.list h
  obtain ⟨its', r', ⟨o', n', e', _, _, d'⟩, _⟩ := I.list h'
  rw [e] at e'; cases e'
  rw [d] at d'
  injection d' with d1 _
  have : its = its' := by simpa using congrArg Array.toList d1
  subst this
  exact r.inj r'
end

/-! ### another wish about exceptions -/
abbrev Cx.wish (X : Cx) (E : Value → Shared → Prop) : Cx := { X with xe := E }
/-- no exception leaves -/
abbrev Cx.nox (X : Cx) : Cx := X.wish fun _ _ => False
theorem Cx.Ok.wish {X : Cx} (ok : X.Ok) (E : Value → Shared → Prop) : (X.wish E).Ok :=
  ⟨ok.mod, ok.kind, ok.glob, ok.blt, ok.above, ok.inj, ok.has, ok.cab, ok.hd, ok.frames, ok.stk, ok.exf, ok.bs, ok.bsz, ok.noex, ok.exfs, ok.funs, ok.frf⟩
theorem Cx.Ok.unwish {X : Cx} {E : Value → Shared → Prop} (ok : (X.wish E).Ok) : X.Ok :=
  ⟨ok.mod, ok.kind, ok.glob, ok.blt, ok.above, ok.inj, ok.has, ok.cab, ok.hd, ok.frames, ok.stk, ok.exf, ok.bs, ok.bsz, ok.noex, ok.exfs, ok.funs, ok.frf⟩
section
variable {X : Cx} {pins : List (Addr × Obj)} {σ : St} {H : Hp} {s : Shared} {E : Value → Shared → Prop}
theorem Inv.wish (I : Inv X pins σ H s) (E : Value → Shared → Prop) : Inv (X.wish E) pins σ H s := ⟨I.ok.wish E, I.os, I.bare, I.base, I.loc, I.cell, I.free, I.freeC, I.pin, I.hok, I.len⟩
theorem Inv.unwish (I : Inv (X.wish E) pins σ H s) : Inv X pins σ H s := ⟨I.ok.unwish, I.os, I.bare, I.base, I.loc, I.cell, I.free, I.freeC, I.pin, I.hok, I.len⟩
theorem SP.unwish {D : Ends} {f : Flow} {s' : Shared} (h : SP (X.wish E) pins D f s') : SP X pins D f s' := by
  cases f with
  | next => obtain ⟨σ', H', I, q⟩ := h; exact ⟨σ', H', I.unwish, q⟩
  | brk => obtain ⟨σ', H', I, q⟩ := h; exact ⟨σ', H', I.unwish, q⟩
  | cont => obtain ⟨σ', H', I, q⟩ := h; exact ⟨σ', H', I.unwish, q⟩
  | ret u => obtain ⟨v, σ', H', I, r, q⟩ := h; exact ⟨v, σ', H', I.unwish, r, q⟩
theorem PSs.nox {st : List Stmt} {t : TS} (h : PSs X.nox st t) : PSs X st t := fun pins s σ H D I hw =>
  wpAny_mono (h pins s σ H D (I.wish _) hw) (fun _ _ q => q.unwish) fun _ _ z => False.elim z
end

/-! ### blocks and small statements -/
section
variable {X : Cx} {st : Stmt} {rest : List Stmt} {t u : TS} {e : Expr} {te : TE} {pos : Pos}
def tNext : TS := fun D σ H => D.nx σ H
def tSeq (t u : TS) : TS := fun D σ H => t { D with nx := u D } σ H
theorem pss_nil : PSs X [] tNext := fun _ _ σ H _ I h => wpAny_execs_nil ⟨σ, H, I, h⟩
theorem pss_cons (h1 : PS X st t) (h2 : PSs X rest u) : PSs X (st :: rest) (tSeq t u) := by
  intro pins s σ H D I h
  refine wpAny_execs_cons (thn (h1 pins s σ H { D with nx := u D } I h) fun f s1 q => ?_)
  cases f with
  | next =>
    obtain ⟨σ', H', I', q⟩ := q
    exact h2 pins s1 σ' H' D I' q
  | ret v => exact q
  | brk => exact q
  | cont => exact q
theorem pss_one (h1 : PS X st t) : PSs X [st] t := by
  intro pins s σ H D I h
  refine wpAny_execs_cons (thn (h1 pins s σ H D I h) fun f s1 q => ?_)
  cases f with
  | next => exact wpAny_execs_nil q
  | ret v => exact q
  | brk => exact q
  | cont => exact q
/-- in a def's body nothing is shown -/
theorem Inv.quiet {pins : List (Addr × Obj)} {σ : St} {H : Hp} {s : Shared} (I : Inv X pins σ H s) : interactive X.env = false := by simp [interactive, I.ok.kind]
/-- an expression whose value is dropped -/
def tDrop (te : TE) : TS := fun D σ H => te σ H fun _ H1 => D.nx σ H1
theorem ps_expr (he : PE X e te) (hs : swapsWith e none pos.line X.env = pure false := by rfl) : PS X (.Expr e pos) (tDrop te) := by
  intro pins s σ H D I h
  exact wpAny_Expr_any (thn (he pins s σ H _ I h) fun v s1 ⟨x, H1, I1, r1, q1⟩ => ⟨σ, H1, I1, q1⟩) I.quiet hs
def tRet (te : TE) : TS := fun D σ H => te σ H D.rt
theorem ps_ret (he : PE X e te) : PS X (.Return (some e) pos) (tRet te) := by
  intro pins s σ H D I h
  exact wpAny_Return_some (thn (he pins s σ H _ I h) fun v s1 ⟨x, H1, I1, r1, q1⟩ => ⟨x, σ, H1, I1, r1, q1⟩)
def tIfS (c : TT) (t u : TS) : TS := fun D σ H => c σ H fun b H1 => if b = true then t D σ H1 else u D σ H1
theorem ps_if {c : Expr} {a b : List Stmt} {tc : TT} (hc : PT X c tc) (ha : PSs X a t) (hb : PSs X b u) : PS X (.If c a b pos) (tIfS tc t u) := by
  intro pins s σ H D I h
  refine wpAny_If (thn (hc pins s σ H _ I h) fun d s1 ⟨H1, I1, q1⟩ => ?_)
  cases d with
  | true => exact ha pins s1 σ H1 D I1 q1
  | false => exact hb pins s1 σ H1 D I1 q1
end

/-! ### targets -/
abbrev TG := V → St → Hp → (St → Hp → Prop) → Prop
abbrev TGs := List V → St → Hp → (St → Hp → Prop) → Prop
def PG (X : Cx) (target : Expr) (t : TG) : Prop :=
  ∀ (pins : List (Addr × Obj)) (s : Shared) (σ : St) (H : Hp) (v : V) (u : Value) (Q : St → Hp → Prop), Inv X pins σ H s → RelV v u → t v σ H Q →
    wpAny (model X.prog X.w) X.A (assign target X.env u) (fun _ s' => ∃ σ' H', Inv X pins σ' H' s' ∧ Q σ' H') X.xe s
/-- several targets, one after another -/
def PGs (X : Cx) (ts : List Expr) (t : TGs) : Prop :=
  ∀ (pins : List (Addr × Obj)) (s : Shared) (σ : St) (H : Hp) (vs : List V) (us : List Value) (Q : St → Hp → Prop), Inv X pins σ H s → Vals vs us → t vs σ H Q →
    wpAny (model X.prog X.w) X.A (assignInOrder ((assignEach ts X.env).map (·.2)) us) (fun _ s' => ∃ σ' H', Inv X pins σ' H' s' ∧ Q σ' H') X.xe s
/-- a op= b, by values -/
abbrev TIp := V → V → Hp → VK → Prop
def PIp (X : Cx) (op : Operator) (t : TIp) : Prop :=
  ∀ (pins : List (Addr × Obj)) (s : Shared) (σ : St) (H : Hp) (x y : V) (v u : Value) (Q : VK), Inv X pins σ H s → RelV x v → RelV y u → t x y H Q →
    wpAny (model X.prog X.w) X.A (inplaceOp op v u) (EP X pins σ Q) X.xe s
section
variable {X : Cx} {pos : Pos}
def gName (i : Nat) : TG := fun v σ H Q => Q (σ.set i (some v)) H
theorem pg_name {i : Nat} {x : Str} (hN : X.N.Nodup) (hi : X.N[i]? = some x) (hx : Loc X.env.scope x) (hf : X.fn x = true ∨ X.env.scope.names.lookup x = some .local := by first | exact .inl rfl | exact .inr rfl | assumption) : PG X (.Name x pos) (gName i) := by
  intro pins s σ H v u Q I r h
  exact wpAny_assign_Name (store_ok I hN hi hx r (fun s' I' => ⟨_, H, I', h⟩) hf)
def gNil : TGs := fun vs σ H Q => vs = [] ∧ Q σ H
def gCons (t : TG) (u : TGs) : TGs := fun vs σ H Q => ∃ v r, vs = v :: r ∧ t v σ H fun σ' H' => u r σ' H' Q
theorem pgs_nil : PGs X [] gNil := by
  intro pins s σ H vs us Q I r h
  obtain ⟨e, h⟩ := h
  subst e
  cases r
  exact assignInOrder_nil ⟨σ, H, I, h⟩
theorem pgs_cons {e : Expr} {es : List Expr} {t : TG} {u : TGs} (h1 : PG X e t) (h2 : PGs X es u)
    (hs : (assignEach (e :: es) X.env).map (·.2) = assign e X.env :: (assignEach es X.env).map (·.2) := by rfl) : PGs X (e :: es) (gCons t u) := by
  intro pins s σ H vs us Q I r h
  obtain ⟨v, vr, e1, h⟩ := h
  subst e1
  cases r with
  | cons r rr =>
    rw [hs]
    refine assignInOrder_cons (thn (h1 pins s σ H _ _ _ I r h) fun _ s1 ⟨σ1, H1, I1, q1⟩ => ?_)
    exact h2 pins s1 σ1 H1 _ _ Q I1 rr q1
/-- (a, b, ..) = a tuple of that length -/
def gTup (K : PySem.W.Frag) (n : Nat) (t : TGs) : TG := fun v σ H Q => ∃ a xs, v = .ref a ∧ SqT K H a xs ∧ xs.length = n ∧ t xs σ H Q
theorem pg_tup {es : List Expr} {k : Nat} {t : TGs} {n : Nat} (hc : X.calm = true) (h : PGs X es t)
    (hn : (assignEach es X.env).length = n := by rfl) (hst : (assignEach es X.env).findIdx? (·.1) = none := by rfl) : PG X (.Tuple es k pos) (gTup X.K n t) := by
  intro pins s σ H v u Q I r hw
  obtain ⟨a, xs, e1, hq, hl, hw⟩ := hw
  subst e1
  cases r
  obtain ⟨its, rv, ht, hz⟩ := I.tuple hq
  refine assign_Tuple_tuple (I.ok.hd hc) ht (by simp [hn, ← hl, rv.length]) hst fun h' hx => ?_
  have I1 : Inv X pins σ H { s with heap := h' } := I.kept (t' := s.toks) fun b o e => hx b o (Nat.ne_of_lt (Heap.lt_size e)) e
  exact h pins _ σ H xs _ Q I1 (by simpa using rv) hw
/-- target = value -/
def tAsg (te : TE) (g : TG) : TS := fun D σ H => te σ H fun x H1 => g x σ H1 D.nx
theorem ps_asg {tg e : Expr} {te : TE} {g : TG} (he : PE X e te) (hg : PG X tg g) (hs : swapsWithSole [tg] e pos.line X.env = pure false := by rfl) (hw : swappedStores [tg] e X.env = pure none := by rfl)
    (h1 : (assignEach [tg] X.env).map (·.2) = [assign tg X.env] := by rfl) : PS X (.Assign [tg] e pos) (tAsg te g) := by
  intro pins s σ H D I h
  refine wpAny_Assign_stores (thn (he pins s σ H _ I h) fun v s1 ⟨x, H1, I1, r1, q1⟩ => ?_) hs hw
  rw [h1]
  exact thn (hg pins s1 σ H1 x v _ I1 r1 q1) fun _ s2 q => q
/-- name = value -/
theorem ps_set {i : Nat} {x : Str} {e : Expr} {te : TE} {pos' : Pos} (hN : X.N.Nodup) (hi : X.N[i]? = some x) (hx : Loc X.env.scope x) (he : PE X e te) (hs : swapsWith e (some (.Name x pos')) pos.line X.env = pure false := by rfl) (hf : X.fn x = true ∨ X.env.scope.names.lookup x = some .local := by first | exact .inl rfl | exact .inr rfl | assumption) :
    PS X (.Assign [.Name x pos'] e pos) (tAsg te (gName i)) := by
  intro pins s σ H D I h
  refine wpAny_Assign_Name (thn (he pins s σ H _ I h) fun v s1 ⟨y, H1, I1, r1, q1⟩ => ?_) hs
  exact store_ok I1 hN hi hx r1 (fun s2 I2 => ⟨_, H1, I2, q1⟩) hf
/-- name op= e -/
def tAug (i : Nat) (te : TE) (ti : TIp) : TS := fun D σ H => ∃ x, σ[i]? = some (some x) ∧ te σ H fun y H1 => ti x y H1 fun z H2 => D.nx (σ.set i (some z)) H2
theorem ps_aug {i : Nat} {x : Str} {e : Expr} {te : TE} {op : Operator} {ti : TIp} {pos' : Pos} (hN : X.N.Nodup) (hi : X.N[i]? = some x) (hx : Loc X.env.scope x) (he : PE X e te) (ho : PIp X op ti) (hf : X.fn x = true ∨ X.env.scope.names.lookup x = some .local := by first | exact .inl rfl | exact .inr rfl | assumption) :
    PS X (.AugAssign (.Name x pos') op e pos) (tAug i te ti) := by
  intro pins s σ H D I h
  obtain ⟨v, e1, h⟩ := h
  obtain ⟨m, hn, hl⟩ := I.loc
  have vis : Vis X.env.scope x := by rcases hx with k | k; exact .inl k; exact .inr (.inl k)
  obtain ⟨u, r, l⟩ := hl i x v hi e1 vis
  refine wpAny_AugAssign_Name ?_
  have go : wpAny (model X.prog X.w) X.A (eval e X.env) (fun w s₂ => wpAny (model X.prog X.w) X.A (inplaceOp op u w) (fun r s₃ => wpAny (model X.prog X.w) X.A (storeName X.env x r) (fun _ => SP X pins D .next) X.xe s₃) X.xe s₂) X.xe s := by
    refine thn (he pins s σ H _ I h) fun w s1 ⟨y, H1, I1, r1, q1⟩ => ?_
    refine thn (ho pins s1 σ H1 v y u w _ I1 r r1 q1) fun z s2 ⟨zv, H2, I2, r2, q2⟩ => ?_
    exact store_ok I2 hN hi hx r2 (fun s3 I3 => ⟨_, H2, I3, q2⟩) hf
  rcases l with ⟨hk, hm⟩ | ⟨hk, c, hc, hcell⟩
  · exact wpAny_loadName_local I.ok.kind hk hn hm go
  · rcases hk with hk | hk
    · exact wpAny_loadName_cell I.ok.kind hk hc hcell go
    · rcases hx with k | k
      · have : X.env.scope.names.lookup x = some .free := hk
        rw [k] at this; cases this
      · have : X.env.scope.names.lookup x = some .free := hk
        rw [k] at this; cases this
/-- ints -/
def ipI (f : Int → Int → Int) : TIp := fun x y H Q => ∃ i j, x = .int i ∧ y = .int j ∧ Q (.int (f i j)) H
theorem ip_add : PIp X .Add (ipI fun i j => i + j) := by
  intro pins s σ H x y v u Q I r1 r2 h
  obtain ⟨i, j, e1, e2, q⟩ := h
  subst e1; subst e2
  obtain ⟨t, rfl⟩ := r1
  obtain ⟨t', rfl⟩ := r2
  exact iadd_int ⟨.int _, H, I.tok _, ⟨_, rfl⟩, q⟩
theorem ip_sub : PIp X .Sub (ipI fun i j => i - j) := by
  intro pins s σ H x y v u Q I r1 r2 h
  obtain ⟨i, j, e1, e2, q⟩ := h
  subst e1; subst e2
  obtain ⟨t, rfl⟩ := r1
  obtain ⟨t', rfl⟩ := r2
  exact isub_int ⟨.int _, H, I.tok _, ⟨_, rfl⟩, q⟩
end

/-! ### while -/
section
variable {X : Cx} {pos : Pos}
/-- the invariant W with its measure -/
def tWhile (c : TT) (tb : TS) : TS := fun D σ H => ∃ W : Nat → St → Hp → Prop, (∃ m, W m σ H) ∧ ∀ m σ H, W m σ H →
  c σ H fun b H1 => if b = true then ∃ N : St → Hp → Prop, (∀ σ' H', N σ' H' → ∃ m', m' < m ∧ W m' σ' H') ∧ tb { D with nx := N, ct := N, bk := D.nx } σ H1 else D.nx σ H1
theorem ps_while {c : Expr} {body : List Stmt} {tc : TT} {tb : TS} (hp : PassesOwn (model X.prog X.w) X.A X.env X.xe) (hc : PT X c tc) (hb : PSs X body tb) : PS X (.While c body [] pos) (tWhile tc tb) := by
  intro pins s σ H D I h
  obtain ⟨W, ⟨m0, w0⟩, turn⟩ := h
  refine wpAny_While (codeAny_whileLoop (fun n s' => ∃ σ' H', Inv X pins σ' H' s' ∧ W n σ' H') ?_ m0 ⟨σ, H, I, w0⟩)
  rintro n s1 ⟨σ1, H1, I1, w1⟩
  refine wpAny_passesOwn hp (thn (hc pins s1 σ1 H1 _ I1 (turn n σ1 H1 w1)) fun b s2 ⟨H2, I2, q2⟩ => ?_)
  cases b with
  | true =>
    obtain ⟨N, hN, q2⟩ := q2
    rw [if_pos rfl]
    refine wpAny_passesOwn hp (thn (hb pins s2 σ1 H2 _ I2 q2) fun f s3 q3 => ?_)
    cases f with
    | next =>
      obtain ⟨σ3, H3, I3, n3⟩ := q3
      obtain ⟨m', hm, w3⟩ := hN σ3 H3 n3
      exact ⟨m', hm, σ3, H3, I3, w3⟩
    | cont =>
      obtain ⟨σ3, H3, I3, n3⟩ := q3
      obtain ⟨m', hm, w3⟩ := hN σ3 H3 n3
      exact ⟨m', hm, σ3, H3, I3, w3⟩
    | brk => exact q3
    | ret v => exact q3
  | false =>
    rw [if_neg Bool.false_ne_true]
    exact wpAny_execs_nil ⟨σ1, H2, I2, q2⟩
end

/-! ### what a loop or a comprehension walks -/
/-- at turn i: it yields x (the heap may grow), or it stops -/
structure It where
  go : Nat → Hp → Prop
  yld : Nat → Hp → V → Hp → Prop
  stop : Nat → Hp → Prop
/-- the iterator's own objects may turn: they are not the frame's, not pinned, younger than the entry (or a comprehension's own) -/
def FpOk (X : Cx) (pins : List (Addr × Obj)) (H : Hp) (b : Addr) : Prop :=
  H b = none ∧ b ≠ X.env.locals ∧ b ∉ X.fs ∧ (b ∈ X.ex ∨ X.s₀.heap.objs.size ≤ b) ∧ (∀ x c, X.env.cells.lookup x = some c → c ≠ b) ∧ ∀ p ∈ X.pn ++ pins, p.1 ≠ b
theorem Inv.fpOk {X : Cx} {pins : List (Addr × Obj)} {σ : St} {H H' : Hp} {s : Shared} {b : Addr} (I : Inv X pins σ H s) (hb : s.heap.objs.size ≤ b) (hn : H' b = none) : FpOk X pins H' b := by
  refine ⟨hn, Nat.ne_of_gt (Nat.lt_of_lt_of_le I.lt hb), I.nofs hb, .inr (Nat.le_trans I.sz hb), fun x c e z => ?_, fun p hp z => ?_⟩
  · obtain ⟨v, q⟩ := I.cell x c e
    exact absurd (Nat.lt_of_lt_of_le q.lt (by rw [z]; exact hb)) (Nat.lt_irrefl _)
  · exact absurd (Nat.lt_of_lt_of_le (Heap.lt_size (I.pin p hp).1) (by rw [z]; exact hb)) (Nat.lt_irrefl _)
structure Turn (P : Program) (w : World) (K : PySem.W.Frag) (tg : Expr) (J : It) (fp : List Addr) (it : Addr) (tn : Nat → Heap → Prop) : Prop where
  mem : it ∈ fp
  obj : ∀ i h, tn i h → ∀ b ∈ fp, ∃ o, h.get? b = some o ∧ ∀ v, o.data ≠ .cell v
  keep : ∀ i h h', tn i h → (∀ b ∈ fp, ∀ o, h.get? b = some o → h'.get? b = some o) → tn i h'
  item : ∀ (X : Cx), X.prog = P → X.w = w → X.K = K → X.calm = true → ∀ (i : Nat) (pins : List (Addr × Obj)) (s : Shared) (σ : St) (H : Hp) (E : Value → Shared → Prop), Inv X pins σ H s → (∀ b ∈ fp, FpOk X pins H b) → tn i s.heap → J.go i H →
    wpAny (model P w) X.A (pyNext (.ref it)) (fun r s1 => ∃ u, r = some u ∧
      wpAny (model P w) X.A (letOwnedTupleGo tg (.ref it) u) (fun _ s2 => ∃ x H', Inv X pins σ H' s2 ∧ RelV x u ∧ J.yld i H x H' ∧ tn (i + 1) s2.heap ∧ ∀ b ∈ fp, H' b = none) E s1) E s
  done : ∀ (X : Cx), X.prog = P → X.w = w → X.K = K → X.calm = true → ∀ (i : Nat) (pins : List (Addr × Obj)) (s : Shared) (σ : St) (H : Hp) (E : Value → Shared → Prop), Inv X pins σ H s → (∀ b ∈ fp, FpOk X pins H b) → tn i s.heap → J.stop i H →
    wpAny (model P w) X.A (pyNext (.ref it)) (fun r s1 => r = none ∧ Inv X pins σ H s1) E s
  self : ∀ (A : Around) (i : Nat) (s : Shared) (Q : Value → Shared → Prop) (E : Value → Shared → Prop), tn i s.heap → Q (.ref it) s → wpAny (model P w) A (pyIter (.ref it)) Q E s
abbrev TI := St → Hp → (It → Hp → Prop) → Prop
/-- an iterator has come -/
def PIE (X : Cx) (pins : List (Addr × Obj)) (σ : St) (tg : Expr) (R : It → Hp → Prop) (itv : Value) (s2 : Shared) : Prop :=
  ∃ (it : Addr) (fp : List Addr) (tn : Nat → Heap → Prop) (J : It) (H' : Hp), itv = .ref it ∧ Inv X pins σ H' s2 ∧ Turn X.prog X.w X.K tg J fp it tn ∧ tn 0 s2.heap ∧ (∀ b ∈ fp, FpOk X pins H' b) ∧ R J H'
def PI (X : Cx) (tg iter : Expr) (wi : TI) : Prop :=
  ∀ (pins : List (Addr × Obj)) (s : Shared) (σ : St) (H : Hp) (R : It → Hp → Prop), Inv X pins σ H s → wi σ H R →
    wpAny (model X.prog X.w) X.A (eval iter X.env) (fun v s1 => wpAny (model X.prog X.w) X.A (pyIter v) (PIE X pins σ tg R) X.xe s1) X.xe s

/-- the step ahead of the store is nothing for an iterator that keeps no tuple -/
theorem go_of {M : Model} {A : Around} {E : Value → Shared → Prop} {s : Shared} {tg : Expr} {it : Addr} {u : Value} {o : Obj} {n : String} {vs : Array Value} {Q : Unit → Shared → Prop} (ho : s.heap.get? it = some o) (hc : o.cls = .type n) (hd : o.data = .fields vs)
    (hn : ["enumerate", "zip", "dict_itemiterator", "dict_reverseitemiterator", "odict_iterator", "itertools.zip_longest", "itertools.pairwise"].contains n = false) (hQ : Q () s) : wpAny M A (letOwnedTupleGo tg (.ref it) u) Q E s := by
  unfold letOwnedTupleGo
  cases tg <;> first
    | exact wpAny_pure hQ
    | (cases u <;> first
        | exact wpAny_pure hQ
        | (refine wpAny_bind (wpAny_load ho ?_)
           rw [hc, hd]
           show wpAny M A (if (["enumerate", "zip", "dict_itemiterator", "dict_reverseitemiterator", "odict_iterator", "itertools.zip_longest", "itertools.pairwise"].contains n && vs[0]? == some (rawInt _)) = true then _ else _) Q E s
           rw [if_neg (by intro h; rw [hn, Bool.false_and] at h; cases h)]
           exact wpAny_pure hQ))

/-- the list at a, as it stands at each turn (a loop may append to it) -/
def Itl (K : PySem.W.Frag) (a : Addr) : It :=
  ⟨fun i H => ∃ xs x, SqL K H a xs ∧ xs[i]? = some x, fun i H x H' => H' = H ∧ ∀ xs, SqL K H a xs → xs[i]? = some x, fun i H => ∃ xs, SqL K H a xs ∧ xs.length ≤ i⟩
/-- lo, lo + 1, .. (n of them) -/
def Itr (lo : Int) (n : Nat) : It := ⟨fun i _ => i < n, fun i H x H' => H' = H ∧ x = .int (lo + i), fun i _ => n ≤ i⟩
theorem turn_list {P : Program} {w : World} {K : PySem.W.Frag} {tg : Expr} (a it : Addr) : Turn P w K tg (Itl K a) [it] it (fun i h => h.IsListIter it a i) where
  mem := by simp
  obj := fun i h st b hb => by
    have e : b = it := by simpa using hb
    subst e
    obtain ⟨o, e, c, d⟩ := st
    exact ⟨o, e, fun v z => by rw [d] at z; cases z⟩
  keep := fun i h h' st k => st.at fun o e => k it (by simp) o e
  item := by
    intro X hP hw hK hc i pins s σ H E I hf st hg
    subst hP hw hK
    obtain ⟨xs, x, hq, hx⟩ := hg
    obtain ⟨its, rv, p, hz⟩ := I.list hq
    obtain ⟨u, hu, ru⟩ := rv.get hx
    obtain ⟨f0, f1, f2, f3, f4, f5⟩ := hf it (by simp)
    refine wpAny_pyNext_list_item st p.isList (x := u) (by simpa using hu) fun h' st' sb => ?_
    have I1 : Inv X pins σ H { s with heap := h' } := I.turned (t' := s.toks) (fun b o hb e => (sb.2 b hb).trans e) f0 f1 f3 f4 f5
    obtain ⟨o, e, c, d⟩ := id st'
    exact ⟨u, rfl, go_of (s := { s with heap := h' }) e c d (by decide) ⟨x, H, I1, ru, ⟨rfl, fun ys hy => by rw [I.list_inj hy hq]; exact hx⟩, st', fun b hb => (hf b hb).1⟩⟩
  done := by
    intro X hP hw hK hc i pins s σ H E I hf st hg
    subst hP hw hK
    obtain ⟨xs, hq, hx⟩ := hg
    obtain ⟨its, rv, p, hz⟩ := I.list hq
    obtain ⟨f0, f1, f2, f3, f4, f5⟩ := hf it (by simp)
    have hl := rv.length
    exact wpAny_pyNext_list_end (I.ok.hd hc) st p.isList (by simp; omega) fun h' eb => ⟨rfl, I.turned (t' := s.toks) (fun b o hb e => eb b o hb e) f0 f1 f3 f4 f5⟩
  self := fun _ _ _ _ _ st h => wpAny_pyIter_listiter st h
theorem turn_range {P : Program} {w : World} {K : PySem.W.Frag} {tg : Expr} (it : Addr) (lo : Int) (n : Nat) : Turn P w K tg (Itr lo n) [it] it (fun i h => IsRangeIter h it (lo + (i : Nat) * 1) ((n : Int) - (i : Nat)) 1) where
  mem := by simp
  obj := fun i h st b hb => by
    have e : b = it := by simpa using hb
    subst e
    exact ⟨_, st, fun v z => by
      have z' : Data.fields _ = Data.cell v := z
      cases z'⟩
  keep := fun i h h' st k => k it (by simp) _ st
  item := by
    intro X hP hw hK hc i pins s σ H E I hf st hg
    subst hP hw hK
    obtain ⟨f0, f1, f2, f3, f4, f5⟩ := hf it (by simp)
    have W := Walks.range (prog := X.prog) (w := X.w) (I.ok.hd hc) it lo 1 n
    refine W.item i s _ _ hg st fun v h' tk hv st' kk => ?_
    obtain ⟨t, rfl⟩ := hv
    have I1 : Inv X pins σ H { s with heap := h', toks := tk } := I.turned (fun b o hb e => kk b o (by simpa using hb) e) f0 f1 f3 f4 f5
    refine ⟨_, rfl, go_of (s := { s with heap := h', toks := tk }) (n := "range_iterator") st' rfl rfl (by decide) ⟨.int (lo + i), H, I1, ⟨t, ?_⟩, ⟨rfl, rfl⟩, st', fun b hb => (hf b hb).1⟩⟩
    rw [Int.mul_one]
  done := by
    intro X hP hw hK hc i pins s σ H E I hf st hg
    subst hP hw hK
    obtain ⟨f0, f1, f2, f3, f4, f5⟩ := hf it (by simp)
    exact wpAny_pyNext_range_end (I.ok.hd hc) st (by have : n ≤ i := hg; omega) fun h' eb => ⟨rfl, I.turned (t' := s.toks) (fun b o hb e => eb b o hb e) f0 f1 f3 f4 f5⟩
  self := fun _ _ _ _ _ st h => wpAny_pyIter_rangeiter st h
end L2

namespace L2
open PySem PySem.Spec PyProof.Rows
section
variable {X : Cx} {tg : Expr}
inductive ListI (K : PySem.W.Frag) (R : It → Hp → Prop) (x : V) (H1 : Hp) : Prop
  | mk (a : Addr) (e : x = .ref a) (h : ∃ xs, SqL K H1 a xs) (q : R (Itl K a) H1) : ListI K R x H1
def iList (K : PySem.W.Frag) (tl : TE) : TI := fun σ H R => tl σ H (ListI K R)
theorem pi_list {l : Expr} {tl : TE} (hl : PE X l tl) : PI X tg l (iList X.K tl) := by
  intro pins s σ H R I h
  refine thn (hl pins s σ H _ I h) fun v s1 ⟨x, H1, I1, r1, q1⟩ => ?_
  obtain ⟨a, e, ⟨xs, hq⟩, q⟩ := q1
  subst e
  cases r1
  obtain ⟨its, rv, p, hz⟩ := I1.list hq
  refine wpAny_pyIter_list p.isList ?_
  refine ⟨s1.heap.objs.size, [s1.heap.objs.size], _, _, H1, rfl, I1.kept (t' := s1.toks) fun b o e => Heap.get?_push_of_some _ e, turn_list a _, ⟨_, Heap.get?_push_size _ rfl, rfl, rfl⟩, fun b hb => ?_, q⟩
  have e : b = s1.heap.objs.size := by simpa using hb
  subst e
  exact I1.fpOk (Nat.le_refl _) (I1.hok.fresh (Nat.le_refl _))
/-- a range object just made, walked -/
theorem range_it {pins : List (Addr × Obj)} {σ : St} {H : Hp} {s : Shared} {R : It → Hp → Prop} {E : Value → Shared → Prop} {lo hi : Int} {t u v : Tok} {tk : Nat} (I : Inv X pins σ H s) (h1 : -(2 ^ 62) ≤ lo) (h2 : lo < 2 ^ 62) (h3 : -(2 ^ 62) ≤ hi) (h4 : hi < 2 ^ 62)
    (q : R (Itr lo (hi - lo).toNat) H) : wpAny (model X.prog X.w) X.A (pyIter (.ref s.heap.objs.size)) (PIE X pins σ tg R) E { s with heap := s.heap.push { cls := .type "range", data := .fields #[.int lo t, .int hi u, .int 1 v] }, toks := tk } := by
  refine wpAny_pyIter_range (IsRange.new ..) (small_one h1 h2 h3 h4) ?_
  have I1 : Inv X pins σ H { s with heap := s.heap.push { cls := .type "range", data := .fields #[.int lo t, .int hi u, .int 1 v] }, toks := tk } := I.kept fun b o e => Heap.get?_push_of_some _ e
  refine ⟨(s.heap.push { cls := .type "range", data := .fields #[.int lo t, .int hi u, .int 1 v] }).objs.size, [(s.heap.push { cls := .type "range", data := .fields #[.int lo t, .int hi u, .int 1 v] }).objs.size], _, _, H, rfl,
    I1.kept (t' := tk) fun b o e => Heap.get?_push_of_some _ e, turn_range _ lo (hi - lo).toNat, ?_, fun b hb => ?_, q⟩
  · have e1 : lo + ((0 : Nat) : Int) * 1 = lo := by simp
    have e2 : (((hi - lo).toNat : Nat) : Int) - ((0 : Nat) : Int) = Builtin.Range.rangeSize lo hi 1 := by rw [rangeSize_one]; split <;> omega
    show IsRangeIter _ _ (lo + ((0 : Nat) : Int) * 1) ((((hi - lo).toNat : Nat) : Int) - ((0 : Nat) : Int)) 1
    rw [e1, e2]
    exact Heap.get?_push_size _ rfl
  · have e : b = (s.heap.push { cls := .type "range", data := .fields #[.int lo t, .int hi u, .int 1 v] }).objs.size := by simpa using hb
    subst e
    exact I1.fpOk (Nat.le_refl _) (I1.hok.fresh (Nat.le_refl _))
inductive Rng1I (R : It → Hp → Prop) (vs : List V) (H1 : Hp) : Prop
  | mk (j : Int) (e : vs = [.int j]) (h1 : -(2 ^ 62) ≤ j) (h2 : j < 2 ^ 62) (q : R (Itr 0 j.toNat) H1) : Rng1I R vs H1
def iRng1 (ta : TA) : TI := fun σ H R => ta σ H (Rng1I R)
theorem pi_range1 {a : Expr} {ta : TA} {p pos : Pos} (hg : Gl X "range") (hm : X.mg "range" = none) (ha : PA X [a] ta) (hs : starEach [a] X.env = [(false, eval a X.env)] := by rfl) : PI X tg (.Call (.Name "range" p) [a] [] pos) (iRng1 ta) := by
  intro pins s σ H R I h
  refine Call_ (ld_blt I hg hm boot_range (PyProof.Rows.callWith_type1 (thn (ha pos pins s σ H _ I h) fun us s1 ⟨vs, H1, I1, r1, q1⟩ => ?_) hs rfl))
  obtain ⟨j, e, q1, q2, q⟩ := q1
  subst e
  cases r1 with
  | cons r rr =>
    cases rr
    obtain ⟨t, rfl⟩ := r
    exact call_range_1 (range_it I1 (by omega) (by omega) q1 q2 (by simpa using q))
/-! ### for -/
/-- W: the invariant by the turn and a measure; N: what the body is to reach -/
def tFor (wi : TI) (g : TG) (tb : TS) : TS := fun D σ H => wi σ H fun J H1 => ∃ W : Nat → Nat → St → Hp → Prop, (∃ m, W 0 m σ H1) ∧ ∀ i m σ H, W i m σ H →
  (J.stop i H ∧ D.nx σ H) ∨ (J.go i H ∧ ∃ N : St → Hp → Prop, (∀ σ' H', N σ' H' → ∃ m', m' < m ∧ W (i + 1) m' σ' H') ∧ ∀ x H', J.yld i H x H' → g x σ H' fun σ2 H2 => tb { D with nx := N, ct := N, bk := D.nx } σ2 H2)
/-- the records at fp as they stand -/
def pinsAt (fp : List Addr) (h : Heap) : List (Addr × Obj) := fp.filterMap fun b => (h.get? b).map fun o => (b, o)
theorem mem_pinsAt {fp : List Addr} {h : Heap} {b : Addr} {o : Obj} (hb : b ∈ fp) (e : h.get? b = some o) : (b, o) ∈ pinsAt fp h := List.mem_filterMap.mpr ⟨b, hb, by rw [e]; rfl⟩
theorem of_pinsAt {fp : List Addr} {h : Heap} {p : Addr × Obj} (hp : p ∈ pinsAt fp h) : p.1 ∈ fp ∧ h.get? p.1 = some p.2 := by
  obtain ⟨b, hb, e⟩ := List.mem_filterMap.mp hp
  cases q : h.get? b with
  | none => rw [q] at e; cases e
  | some o =>
    rw [q] at e
    have e' : (b, o) = p := Option.some.inj e
    subst e'
    exact ⟨hb, q⟩
theorem Inv.pinned {pins : List (Addr × Obj)} {σ : St} {H : Hp} {s : Shared} {fp : List Addr} (I : Inv X pins σ H s) (hf : ∀ b ∈ fp, FpOk X pins H b) (ho : ∀ b ∈ fp, ∃ o, s.heap.get? b = some o ∧ ∀ v, o.data ≠ .cell v) : Inv X (pins ++ pinsAt fp s.heap) σ H s :=
  I.pins_of fun p hp => (List.mem_append.mp hp).elim (fun z => I.pin p (List.mem_append_right _ z)) fun z => by
    obtain ⟨hb, e⟩ := of_pinsAt z
    obtain ⟨f0, f1, f2, _⟩ := hf p.1 hb
    obtain ⟨o, e', d⟩ := ho p.1 hb
    rw [e] at e'; cases e'
    exact ⟨e, f0, f1, f2, d⟩
theorem Inv.unpinned {pins pl : List (Addr × Obj)} {σ : St} {H : Hp} {s : Shared} (I : Inv X (pins ++ pl) σ H s) : Inv X pins σ H s := I.pins_of fun p hp => I.pin p (List.mem_append_right _ (List.mem_append_left _ hp))
theorem ps_for {iter : Expr} {body : List Stmt} {wi : TI} {g : TG} {tb : TS} {pos : Pos} (hp : PassesOwn (model X.prog X.w) X.A X.env X.xe) (hc : X.calm = true) (hi : PI X tg iter wi) (hg : PG X tg g) (hb : PSs X body tb)
    (hs : ∀ x, foldedSetIterable iter X.env x = pure x := by intro _; rfl) : PS X (.For tg iter body [] pos) (tFor wi g tb) := by
  intro pins s σ H D I h
  refine wpAny_For (thn (hi pins s σ H _ I h) fun v s1 h1 => thn h1 fun itv s2 h2 => ?_) hs
  obtain ⟨it, fp, tn, J, H2, e, I2, T, st2, f2, W, ⟨m0, w0⟩, turn⟩ := h2
  subst e
  -- what stays true of the iterator's objects through the loop
  have stat : ∀ {H' : Hp}, (∀ b ∈ fp, H' b = none) → ∀ b ∈ fp, FpOk X pins H' b := fun hn b hb => ⟨hn b hb, (f2 b hb).2⟩
  refine codeAny_forLoop_any (fun n s' => ∃ i σ' H', Inv X pins σ' H' s' ∧ tn i s'.heap ∧ (∀ b ∈ fp, H' b = none) ∧ W i n σ' H') ?_ m0 ⟨0, σ, H2, I2, st2, fun b hb => (f2 b hb).1, w0⟩
  rintro n s3 ⟨i, σ3, H3, I3, st3, fr3, w3⟩
  rcases turn i n σ3 H3 w3 with ⟨stop, qn⟩ | ⟨go, N, hN, step⟩
  · refine wpAny_passesOwn hp (thn (T.done X rfl rfl rfl hc i pins s3 σ3 H3 X.xe I3 (stat fr3) st3 stop) fun r s4 ⟨hr, I4⟩ => ?_)
    subst hr
    exact wpAny_execs_nil ⟨σ3, H3, I4, qn⟩
  · refine wpAny_passesOwn hp (thn (T.item X rfl rfl rfl hc i pins s3 σ3 H3 X.xe I3 (stat fr3) st3 go) fun r s4 ⟨u, hr, h4⟩ => ?_)
    subst hr
    refine wpAny_passesOwn hp (thn h4 fun _ s5 ⟨x, H5, I5, r5, y5, st5, fr5⟩ => ?_)
    have I5' := I5.pinned (stat fr5) (T.obj _ _ st5)
    refine wpAny_passesOwn hp (thn (hg _ s5 σ3 H5 x u _ I5' r5 (step x H5 y5)) fun _ s6 ⟨σ6, H6, I6, q6⟩ => ?_)
    refine wpAny_passesOwn hp (thn (hb _ s6 σ6 H6 _ I6 q6) fun f s7 q7 => ?_)
    have again : ∀ {σ7 : St} {H7 : Hp}, Inv X (pins ++ pinsAt fp s5.heap) σ7 H7 s7 → N σ7 H7 → ∃ m, m < n ∧ ∃ i σ' H', Inv X pins σ' H' s7 ∧ tn i s7.heap ∧ (∀ b ∈ fp, H' b = none) ∧ W i m σ' H' := fun {σ7 H7} I7 n7 => by
      obtain ⟨m', hm, w7⟩ := hN σ7 H7 n7
      refine ⟨m', hm, i + 1, σ7, H7, I7.unpinned, T.keep _ _ _ st5 fun b hb o e => (I7.pin (b, o) (List.mem_append_right _ (List.mem_append_right _ (mem_pinsAt hb e)))).1, fun b hb => ?_, w7⟩
      obtain ⟨o, e, d⟩ := T.obj _ _ st5 b hb
      exact (I7.pin (b, o) (List.mem_append_right _ (List.mem_append_right _ (mem_pinsAt hb e)))).2.1
    cases f with
    | next => obtain ⟨σ7, H7, I7, n7⟩ := q7; exact again I7 n7
    | cont => obtain ⟨σ7, H7, I7, n7⟩ := q7; exact again I7 n7
    | brk => obtain ⟨σ7, H7, I7, q7⟩ := q7; exact ⟨σ7, H7, I7.unpinned, q7⟩
    | ret v => obtain ⟨x7, σ7, H7, I7, r7, q7⟩ := q7; exact ⟨x7, σ7, H7, I7.unpinned, r7, q7⟩
end

/-! ### the forms one uses -/
/-- over a list that the body leaves as it is -/
theorem for_list {K : PySem.W.Frag} {a : Addr} {xs : List V} {g : TG} {tb : TS} {D : Ends} {σ : St} {H : Hp} (Pv : Nat → St → Hp → Prop) (h0 : Pv 0 σ H) (hl : ∀ i σ H, i ≤ xs.length → Pv i σ H → SqL K H a xs)
    (hs : ∀ i x σ H, xs[i]? = some x → Pv i σ H → g x σ H fun σ2 H2 => tb { D with nx := Pv (i + 1), ct := Pv (i + 1), bk := D.nx } σ2 H2) (hd : ∀ σ H, Pv xs.length σ H → D.nx σ H) :
    ∃ W : Nat → Nat → St → Hp → Prop, (∃ m, W 0 m σ H) ∧ ∀ i m σ H, W i m σ H →
      ((Itl K a).stop i H ∧ D.nx σ H) ∨ ((Itl K a).go i H ∧ ∃ N : St → Hp → Prop, (∀ σ' H', N σ' H' → ∃ m', m' < m ∧ W (i + 1) m' σ' H') ∧ ∀ x H', (Itl K a).yld i H x H' → g x σ H' fun σ2 H2 => tb { D with nx := N, ct := N, bk := D.nx } σ2 H2) := by
  refine ⟨fun i m σ H => m = xs.length - i ∧ i ≤ xs.length ∧ Pv i σ H, ⟨xs.length, by simp, Nat.zero_le _, h0⟩, ?_⟩
  rintro i m σ H ⟨rfl, hi, p⟩
  have q := hl i σ H hi p
  by_cases hlt : i < xs.length
  · refine .inr ⟨⟨xs, xs[i], q, by simp [hlt]⟩, Pv (i + 1), fun σ' H' p' => ⟨xs.length - (i + 1), by omega, rfl, hlt, p'⟩, fun x H' y => ?_⟩
    obtain ⟨e, y⟩ := y
    subst e
    exact hs i x σ _ (y xs q) p
  · have e : i = xs.length := by omega
    subst e
    exact .inl ⟨⟨xs, q, Nat.le_refl _⟩, hd σ H p⟩
theorem for_range {lo : Int} {n : Nat} {g : TG} {tb : TS} {D : Ends} {σ : St} {H : Hp} (Pv : Nat → St → Hp → Prop) (h0 : Pv 0 σ H)
    (hs : ∀ i σ H, i < n → Pv i σ H → g (.int (lo + i)) σ H fun σ2 H2 => tb { D with nx := Pv (i + 1), ct := Pv (i + 1), bk := D.nx } σ2 H2) (hd : ∀ σ H, Pv n σ H → D.nx σ H) :
    ∃ W : Nat → Nat → St → Hp → Prop, (∃ m, W 0 m σ H) ∧ ∀ i m σ H, W i m σ H →
      ((Itr lo n).stop i H ∧ D.nx σ H) ∨ ((Itr lo n).go i H ∧ ∃ N : St → Hp → Prop, (∀ σ' H', N σ' H' → ∃ m', m' < m ∧ W (i + 1) m' σ' H') ∧ ∀ x H', (Itr lo n).yld i H x H' → g x σ H' fun σ2 H2 => tb { D with nx := N, ct := N, bk := D.nx } σ2 H2) := by
  refine ⟨fun i m σ H => m = n - i ∧ i ≤ n ∧ Pv i σ H, ⟨n, by simp, Nat.zero_le _, h0⟩, ?_⟩
  rintro i m σ H ⟨rfl, hi, p⟩
  by_cases hlt : i < n
  · refine .inr ⟨hlt, Pv (i + 1), fun σ' H' p' => ⟨n - (i + 1), by omega, rfl, hlt, p'⟩, fun x H' y => ?_⟩
    obtain ⟨e, y⟩ := y
    subst e y
    exact hs i σ _ hlt p
  · have e : i = n := by omega
    subst e
    exact .inl ⟨Nat.le_refl _, hd σ H p⟩
/-- while, by a word and a measure of the state -/
theorem while_by {c : TT} {tb : TS} {D : Ends} {σ : St} {H : Hp} (Pv : St → Hp → Prop) (μ : St → Hp → Nat) (h0 : Pv σ H)
    (hs : ∀ σ H, Pv σ H → c σ H fun b H1 => if b = true then tb { D with nx := fun σ' H' => Pv σ' H' ∧ μ σ' H' < μ σ H, ct := fun σ' H' => Pv σ' H' ∧ μ σ' H' < μ σ H, bk := D.nx } σ H1 else D.nx σ H1)
    (mono : ∀ σ H Q Q', (∀ b H1, Q b H1 → Q' b H1) → c σ H Q → c σ H Q') : tWhile c tb D σ H := by
  refine ⟨fun m σ H => m = μ σ H ∧ Pv σ H, ⟨_, rfl, h0⟩, ?_⟩
  rintro m σ H ⟨rfl, p⟩
  refine mono σ H _ _ (fun b H1 q => ?_) (hs σ H p)
  cases b with
  | true => exact ⟨_, fun σ' H' ⟨p', l⟩ => ⟨_, l, rfl, p'⟩, q⟩
  | false => exact q
end L2

namespace L2
open PySem PySem.Spec PyProof.Rows

abbrev R2 := V → V → Hp → VK → Prop
/-- a two-place operation on values: f is binaryOp op, inplaceOp op or compareOp op -/
def OpR (X : Cx) (f : Value → Value → Sem Value) (r : R2) : Prop :=
  ∀ (pins : List (Addr × Obj)) (s : Shared) (σ : St) (H : Hp) (x y : V) (v u : Value) (Q : VK), Inv X pins σ H s → RelV x v → RelV y u → r x y H Q →
    wpAny (model X.prog X.w) X.A (f v u) (EP X pins σ Q) X.xe s
/-- a one-place operation -/
def UnR (X : Cx) (f : Value → Sem Value) (r : V → Hp → VK → Prop) : Prop :=
  ∀ (pins : List (Addr × Obj)) (s : Shared) (σ : St) (H : Hp) (x : V) (v : Value) (Q : VK), Inv X pins σ H s → RelV x v → r x H Q →
    wpAny (model X.prog X.w) X.A (f v) (EP X pins σ Q) X.xe s
/-- a call of a value that is known (a builtin, a type) with values -/
def CallR (X : Cx) (f : Value) (r : List V → Hp → VK → Prop) : Prop :=
  ∀ (pins : List (Addr × Obj)) (s : Shared) (σ : St) (H : Hp) (xs : List V) (us : List Value) (Q : VK), Inv X pins σ H s → Vals xs us → r xs H Q →
    wpAny (model X.prog X.w) X.A (call f us) (EP X pins σ Q) X.xe s
/-- a value's truth -/
def TruR (X : Cx) (r : V → Hp → (Bool → Hp → Prop) → Prop) : Prop :=
  ∀ (pins : List (Addr × Obj)) (s : Shared) (σ : St) (H : Hp) (x : V) (v : Value) (Q : Bool → Hp → Prop), Inv X pins σ H s → RelV x v → r x H Q →
    wpAny (model X.prog X.w) X.A (truthy v) (TP X pins σ Q) X.xe s

def tOp (r : R2) (ta tb : TE) : TE := fun σ H Q => ta σ H fun x H1 => tb σ H1 fun y H2 => r x y H2 Q
def tUn (r : V → Hp → VK → Prop) (ta : TE) : TE := fun σ H Q => ta σ H fun x H1 => r x H1 Q
/-- ints in, under C, and a value out -/
def rI (C : Int → Int → Prop) (g : Int → Int → V) : R2 := fun x y H Q => ∃ i j, x = .int i ∧ y = .int j ∧ C i j ∧ Q (g i j) H
def rI0 (g : Int → Int → V) : R2 := fun x y H Q => ∃ i j, x = .int i ∧ y = .int j ∧ Q (g i j) H
def rU (g : Int → V) : V → Hp → VK → Prop := fun x H Q => ∃ i, x = .int i ∧ Q (g i) H

section
variable {X : Cx} {a b c : Expr} {ta tb tc : TE} {pos : Pos}

theorem binT (ha : PE X a ta) (hb : PE X b tb) {pins : List (Addr × Obj)} {s : Shared} {σ : St} {H : Hp} {R : V → V → Hp → Prop} (I : Inv X pins σ H s)
    (h : ta σ H fun x H1 => tb σ H1 fun y H2 => R x y H2) {Q : Value → Shared → Prop} {f : Value → Value → Sem Value}
    (hf : ∀ v u s2 x y H2, Inv X pins σ H2 s2 → RelV x v → RelV y u → R x y H2 → wpAny (model X.prog X.w) X.A (f v u) Q X.xe s2) :
    wpAny (model X.prog X.w) X.A (eval a X.env) (fun v s₁ => wpAny (model X.prog X.w) X.A (eval b X.env) (fun u s₂ => wpAny (model X.prog X.w) X.A (f v u) Q X.xe s₂) X.xe s₁) X.xe s := by
  refine thn (ha pins s σ H _ I h) fun v s1 ⟨x, H1, I1, r1, q1⟩ => ?_
  refine thn (hb pins s1 σ H1 _ I1 q1) fun u s2 ⟨y, H2, I2, r2, q2⟩ => ?_
  exact hf v u s2 x y H2 I2 r1 r2 q2

theorem pe_op {op : Operator} {r : R2} (ho : OpR X (binaryOp op) r) (ha : PE X a ta) (hb : PE X b tb) : PE X (.BinOp a op b pos) (tOp r ta tb) := by
  intro pins s σ H Q I h
  exact wpAny_BinOp (binT ha hb I h fun v u s2 x y H2 I2 rx ry q => ho pins s2 σ H2 x y v u Q I2 rx ry q)
theorem pe_un {op : UnaryOp} {r : V → Hp → VK → Prop} (ho : UnR X (unaryOp op) r) (ha : PE X a ta) : PE X (.UnaryOp op a pos) (tUn r ta) := by
  intro pins s σ H Q I h
  exact UnaryOp_ (thn (ha pins s σ H _ I h) fun v s1 ⟨x, H1, I1, r1, q1⟩ => ho pins s1 σ H1 x v Q I1 r1 q1)
/-! ### ints -/
theorem opI {f : Value → Value → Sem Value} {C : Int → Int → Prop} {g : Int → Int → Int}
    (rule : ∀ (i j : Int) (t u : Tok) (s : Shared) (Q : Value → Shared → Prop) (E : Value → Shared → Prop), C i j → Q (.int (g i j) s.toks) { s with toks := s.toks + 1 } → wpAny (model X.prog X.w) X.A (f (.int i t) (.int j u)) Q E s) :
    OpR X f (rI C fun i j => .int (g i j)) := by
  intro pins s σ H x y v u Q I rx ry h
  obtain ⟨i, j, rfl, rfl, hc, q⟩ := h
  obtain ⟨t, rfl⟩ := rx
  obtain ⟨t', rfl⟩ := ry
  exact rule i j t t' s _ _ hc ⟨.int (g i j), H, I.tok _, ⟨_, rfl⟩, q⟩
theorem opI0 {f : Value → Value → Sem Value} {g : Int → Int → Int}
    (rule : ∀ (i j : Int) (t u : Tok) (s : Shared) (Q : Value → Shared → Prop) (E : Value → Shared → Prop), Q (.int (g i j) s.toks) { s with toks := s.toks + 1 } → wpAny (model X.prog X.w) X.A (f (.int i t) (.int j u)) Q E s) :
    OpR X f (rI0 fun i j => .int (g i j)) := by
  intro pins s σ H x y v u Q I rx ry h
  obtain ⟨i, j, rfl, rfl, q⟩ := h
  obtain ⟨t, rfl⟩ := rx
  obtain ⟨t', rfl⟩ := ry
  exact rule i j t t' s _ _ ⟨.int (g i j), H, I.tok _, ⟨_, rfl⟩, q⟩
theorem opB0 {f : Value → Value → Sem Value} {g : Int → Int → Bool}
    (rule : ∀ (i j : Int) (t u : Tok) (s : Shared) (Q : Value → Shared → Prop) (E : Value → Shared → Prop), Q (.bool (g i j)) s → wpAny (model X.prog X.w) X.A (f (.int i t) (.int j u)) Q E s) :
    OpR X f (rI0 fun i j => .bl (g i j)) := by
  intro pins s σ H x y v u Q I rx ry h
  obtain ⟨i, j, rfl, rfl, q⟩ := h
  obtain ⟨t, rfl⟩ := rx
  obtain ⟨t', rfl⟩ := ry
  exact rule i j t t' s _ _ ⟨.bl (g i j), H, I, rfl, q⟩

def CDiv (i j : Int) : Prop := 0 < j ∧ j < 1073741824
def CPow (i j : Int) : Prop := 0 ≤ j ∧ j ≤ 1000000 ∧ i.natAbs < 2 ^ 64
theorem op_add : OpR X (binaryOp .Add) (rI0 fun i j => .int (i + j)) := opI0 fun _ _ _ _ _ _ _ q => add_int q
theorem op_sub : OpR X (binaryOp .Sub) (rI0 fun i j => .int (i - j)) := opI0 fun _ _ _ _ _ _ _ q => sub_int q
/-- // by a positive divisor -/
theorem op_fdiv : OpR X (binaryOp .FloorDiv) (rI CDiv fun i j => .int (i / j)) := opI fun i j _ _ _ _ _ hc q => by
  have h1 : (0 : Int) < j := hc.1
  have h2 : j < 1073741824 := hc.2
  exact floordiv_int (by omega) (by rw [Int.fdiv_eq_ediv_of_nonneg i (by omega)]; exact q) (.inl (PyProof.noPylong_small (by omega)))
/-- % by a positive divisor of any size -/
theorem op_mod : OpR X (binaryOp .Mod) (rI (fun _ j => 0 < j) fun i j => .int (i % j)) := opI fun i j _ _ _ _ _ hc q => by
  have h1 : (0 : Int) < j := hc
  exact mod_int' (by omega) (by rw [Int.fmod_eq_emod_of_nonneg i (by omega)]; exact q)
theorem op_pow : OpR X (binaryOp .Pow) (rI CPow fun i j => .int (i ^ j.toNat)) := opI fun _ _ _ _ _ _ _ hc q => pow_int_small hc.1 hc.2.1 hc.2.2 q
theorem unI {f : Value → Sem Value} {g : Int → Int}
    (rule : ∀ (i : Int) (t : Tok) (s : Shared) (Q : Value → Shared → Prop) (E : Value → Shared → Prop), Q (.int (g i) s.toks) { s with toks := s.toks + 1 } → wpAny (model X.prog X.w) X.A (f (.int i t)) Q E s) :
    UnR X f (rU fun i => .int (g i)) := by
  intro pins s σ H x v Q I rx h
  obtain ⟨i, rfl, q⟩ := h
  obtain ⟨t, rfl⟩ := rx
  exact rule i t s _ _ ⟨.int (g i), H, I.tok _, ⟨_, rfl⟩, q⟩
theorem un_neg : UnR X (unaryOp .USub) (rU fun i => .int (-i)) := unI fun _ _ _ _ _ q => neg_int q
/-! ### bools among ints: n += (a < b) -/
end

/-! ### comparisons -/
/-- the scalars that == tells apart as data does -/
def scal : V → V → Bool
  | .non, .non => true | .non, .int _ => true | .int _, .non => true | .non, .bl _ => true | .bl _, .non => true | .non, .str _ => true | .str _, .non => true
  | .int _, .int _ => true | .bl _, .bl _ => true | .str _, .str _ => true | .byt _, .byt _ => true
  | .int _, .str _ => true | .str _, .int _ => true | .bl _, .str _ => true | .str _, .bl _ => true
  | _, _ => false
def rEq : R2 := fun x y H Q => scal x y = true ∧ Q (.bl (decide (x = y))) H
def rNe : R2 := fun x y H Q => scal x y = true ∧ Q (.bl (!decide (x = y))) H

theorem dec_int {i j : Int} : decide (V.int i = V.int j) = (i == j) := by
  rw [Bool.eq_iff_iff]
  simp
theorem dec_bl {i j : Bool} : decide (V.bl i = V.bl j) = (i == j) := by
  rw [Bool.eq_iff_iff]
  simp
theorem dec_str {i j : Str} : decide (V.str i = V.str j) = (i == j) := by
  rw [Bool.eq_iff_iff]
  simp
theorem dec_byt {i j : Array UInt8} : decide (V.byt i = V.byt j) = (i.toList == j.toList) := by
  rw [Bool.eq_iff_iff]
  cases i
  cases j
  simp

section
variable {X : Cx} {a b c : Expr} {ta tb tc : TE} {pos : Pos}
theorem fin_bl {pins : List (Addr × Obj)} {σ : St} {H : Hp} {s : Shared} {Q : VK} {k k' : Bool} (I : Inv X pins σ H s) (q : Q (.bl k) H) (e : k = k') : EP X pins σ Q (.bool k') s := by
  subst e
  exact ⟨.bl k, H, I, rfl, q⟩
theorem op_eq : OpR X (compareOp .Eq) rEq := by
  intro pins s σ H x y v u Q I rx ry h
  obtain ⟨hs, q⟩ := h
  cases x with
  | non =>
    cases rx
    cases y with
    | non => cases ry; exact PySem.EqNone.eq_none_none (fin_bl I q (by simp))
    | bl j => cases ry; exact PySem.EqNone.eq_none_bool (fin_bl I q (by simp))
    | int j => obtain ⟨t', rfl⟩ := ry; exact PySem.EqNone.eq_none_int (fin_bl I q (by simp))
    | str j => obtain ⟨t', rfl⟩ := ry; exact PySem.EqNone.eq_none_str (fin_bl I q (by simp))
    | _ => exact absurd (show false = true from hs) Bool.false_ne_true
  | bl i =>
    cases rx
    cases y with
    | non => cases ry; exact PySem.EqNone.eq_bool_none (fin_bl I q (by simp))
    | bl j => cases ry; exact eq_bool (fin_bl I q dec_bl)
    | str j => obtain ⟨t', rfl⟩ := ry; exact PySem.EqMixed.eq_bool_str (fin_bl I q (by simp))
    | _ => exact absurd (show false = true from hs) Bool.false_ne_true
  | int i =>
    obtain ⟨t, rfl⟩ := rx
    cases y with
    | non => cases ry; exact PySem.EqNone.eq_int_none (fin_bl I q (by simp))
    | int j => obtain ⟨t', rfl⟩ := ry; exact eq_int (fin_bl I q dec_int)
    | str j => obtain ⟨t', rfl⟩ := ry; exact PySem.EqMixed.eq_int_str (fin_bl I q (by simp))
    | _ => exact absurd (show false = true from hs) Bool.false_ne_true
  | str i =>
    obtain ⟨t, rfl⟩ := rx
    cases y with
    | non => cases ry; exact PySem.EqNone.eq_str_none (fin_bl I q (by simp))
    | bl j => cases ry; exact PySem.EqMixed.eq_str_bool (fin_bl I q (by simp))
    | int j => obtain ⟨t', rfl⟩ := ry; exact PySem.EqMixed.eq_str_int (fin_bl I q (by simp))
    | str j => obtain ⟨t', rfl⟩ := ry; exact eq_str (fin_bl I q dec_str)
    | _ => exact absurd (show false = true from hs) Bool.false_ne_true
  | byt i =>
    obtain ⟨t, rfl⟩ := rx
    cases y with
    | byt j => obtain ⟨t', rfl⟩ := ry; exact PySem.W.eq_bytes (fin_bl I q dec_byt)
    | _ => exact absurd (show false = true from hs) Bool.false_ne_true
  | _ => cases y <;> exact absurd (show false = true from hs) Bool.false_ne_true
theorem op_ne : OpR X (compareOp .NotEq) rNe := by
  intro pins s σ H x y v u Q I rx ry h
  obtain ⟨hs, q⟩ := h
  cases x with
  | non =>
    cases rx
    cases y with
    | non => cases ry; exact PySem.EqNone.ne_none_none (fin_bl I q (by simp))
    | bl j => cases ry; exact PySem.EqNone.ne_none_bool (fin_bl I q (by simp))
    | int j => obtain ⟨t', rfl⟩ := ry; exact PySem.EqNone.ne_none_int (fin_bl I q (by simp))
    | str j => obtain ⟨t', rfl⟩ := ry; exact PySem.EqNone.ne_none_str (fin_bl I q (by simp))
    | _ => exact absurd (show false = true from hs) Bool.false_ne_true
  | bl i =>
    cases rx
    cases y with
    | non => cases ry; exact PySem.EqNone.ne_bool_none (fin_bl I q (by simp))
    | bl j => cases ry; exact ne_bool (fin_bl I q (congrArg not dec_bl))
    | str j => obtain ⟨t', rfl⟩ := ry; exact PySem.EqMixed.ne_bool_str (fin_bl I q (by simp))
    | _ => exact absurd (show false = true from hs) Bool.false_ne_true
  | int i =>
    obtain ⟨t, rfl⟩ := rx
    cases y with
    | non => cases ry; exact PySem.EqNone.ne_int_none (fin_bl I q (by simp))
    | int j => obtain ⟨t', rfl⟩ := ry; exact ne_int (fin_bl I q (congrArg not dec_int))
    | str j => obtain ⟨t', rfl⟩ := ry; exact PySem.EqMixed.ne_int_str (fin_bl I q (by simp))
    | _ => exact absurd (show false = true from hs) Bool.false_ne_true
  | str i =>
    obtain ⟨t, rfl⟩ := rx
    cases y with
    | non => cases ry; exact PySem.EqNone.ne_str_none (fin_bl I q (by simp))
    | bl j => cases ry; exact PySem.EqMixed.ne_str_bool (fin_bl I q (by simp))
    | int j => obtain ⟨t', rfl⟩ := ry; exact PySem.EqMixed.ne_str_int (fin_bl I q (by simp))
    | str j => obtain ⟨t', rfl⟩ := ry; exact ne_str (fin_bl I q (congrArg not dec_str))
    | _ => exact absurd (show false = true from hs) Bool.false_ne_true
  | byt i =>
    obtain ⟨t, rfl⟩ := rx
    cases y with
    | byt j => obtain ⟨t', rfl⟩ := ry; exact PySem.W.ne_bytes (fin_bl I q (congrArg not dec_byt))
    | _ => exact absurd (show false = true from hs) Bool.false_ne_true
  | _ => cases y <;> exact absurd (show false = true from hs) Bool.false_ne_true

theorem op_lt : OpR X (compareOp .Lt) (rI0 fun i j => .bl (decide (i < j))) := opB0 fun _ _ _ _ _ _ _ q => lt_int q
theorem op_gt : OpR X (compareOp .Gt) (rI0 fun i j => .bl (decide (j < i))) := opB0 fun _ _ _ _ _ _ _ q => gt_int q
theorem op_ge : OpR X (compareOp .GtE) (rI0 fun i j => .bl (decide (j ≤ i))) := opB0 fun _ _ _ _ _ _ _ q => ge_int q
/-- the one string within the other -/
theorem op_in_str : OpR X (compareOp .In) (fun x y H Q => ∃ i j, x = .str i ∧ y = .str j ∧ Q (.bl (!(Builtin.Str.occurrences j i 0 j.length 1).isEmpty)) H) := by
  intro pins s σ H x y v u Q I rx ry h
  obtain ⟨i, j, rfl, rfl, q⟩ := h
  obtain ⟨t, rfl⟩ := rx
  obtain ⟨t', rfl⟩ := ry
  exact in_str (fin_bl I q rfl)

theorem nomark (b : Expr) {op : CmpOp} (h : op ≠ .In := by decide) (h2 : op ≠ .NotIn := by decide) : behindInMarks op b = false := by
  have e1 : (op == CmpOp.In) = false := by cases op <;> first | rfl | exact absurd rfl h
  have e2 : (op == CmpOp.NotIn) = false := by cases op <;> first | rfl | exact absurd rfl h2
  cases b <;> simp [behindInMarks, e1, e2]
/-- a comparison as a value; hm: nomark b, or (for in, not in) by with_unfolding_all rfl -/
theorem pe_cmpR {op : CmpOp} {r : R2} (ho : OpR X (compareOp op) r) (ha : PE X a ta) (hb : PE X b tb) (hm : behindInMarks op b = false) : PE X (.Compare a [op] [b] pos) (tOp r ta tb) := by
  intro pins s σ H Q I h
  exact wpAny_Compare1 (binT ha hb I h fun v u s2 x y H2 I2 rx ry q => ho pins s2 σ H2 x y v u Q I2 rx ry q) hm
/-- a reading of a value as a test -/
def tTest (t : TE) : TT := fun σ H Q => t σ H fun x H' => ∃ k, x = .bl k ∧ Q k H'
theorem pt_cmpR {op : CmpOp} {r : R2} (ho : OpR X (compareOp op) r) (ha : PE X a ta) (hb : PE X b tb) (hm : behindInMarks op b = false) : PT X (.Compare a [op] [b] pos) (tTest (tOp r ta tb)) := by
  intro pins s σ H Q I h
  refine wpAny_isTrue_Compare1 (thn (ha pins s σ H _ I h) fun v s1 ⟨x, H1, I1, r1, q1⟩ => thn (hb pins s1 σ H1 _ I1 q1) fun u s2 ⟨y, H2, I2, r2, q2⟩ =>
    thn (ho pins s2 σ H2 x y v u _ I2 r1 r2 q2) fun c s3 ⟨z, H3, I3, r3, k, e, q3⟩ => ?_) hm
  subst e
  cases r3
  exact wpAny_truthy_bool ⟨H3, I3, q3⟩
/-! ### truth -/
/-- a value's truth by the abstract heap -/
def TruV (K : PySem.W.Frag) (x : V) (H : Hp) (k : Bool) : Prop :=
  match x with
  | .non => k = false
  | .bl b => k = b
  | .int i => k = (i != 0)
  | .str y => y.length ≤ sizeLine ∧ k = ((y.length : Int) != 0)
  | .byt y => y.size ≤ sizeLine ∧ k = ((y.size : Int) != 0)
  | .ref p => (∃ xs, SqL K H p xs ∧ k = !xs.isEmpty) ∨ (∃ xs, SqT K H p xs ∧ k = !xs.isEmpty) ∨ ∃ kvs, H p = some (.dK kvs) ∧ k = !kvs.isEmpty
  | _ => False
theorem isEmpty_kv {κ : Type} {kvs : List (κ × V)} {vs : List (κ × Value)} (r : KV kvs vs) : (!vs.isEmpty) = !kvs.isEmpty := by
  cases r <;> rfl
theorem isEmpty_of {xs : List V} {its : List Value} (r : Vals xs its) : (!its.toArray.isEmpty) = !xs.isEmpty := by
  cases r <;> simp
theorem line63 : (sizeLine : Nat) < 2 ^ 63 := by rw [sizeLine_eq]; decide
theorem tru_ok : TruR X (fun x H Q => ∃ k, TruV X.K x H k ∧ Q k H) := by
  intro pins s σ H x v Q I rx h
  obtain ⟨k, e, q⟩ := h
  have hl := line63
  have hs : sizeLine = 16777216 := sizeLine_eq
  cases x with
  | non =>
    cases rx
    have e' : k = false := e
    subst e'
    exact truthy_none ⟨H, I, q⟩
  | bl b =>
    cases rx
    have e' : k = b := e
    subst e'
    exact wpAny_truthy_bool ⟨H, I, q⟩
  | int i =>
    obtain ⟨t, rfl⟩ := rx
    have e' : k = (i != 0) := e
    subst e'
    exact PySem.P.truthy_int ⟨H, I, q⟩
  | str y =>
    obtain ⟨t, rfl⟩ := rx
    obtain ⟨hy, e'⟩ : y.length ≤ sizeLine ∧ k = ((y.length : Int) != 0) := e
    subst e'
    exact PySem.P.truthy_str (by omega) ⟨H, I.tok _, q⟩
  | byt y =>
    obtain ⟨t, rfl⟩ := rx
    obtain ⟨hy, e'⟩ : y.size ≤ sizeLine ∧ k = ((y.size : Int) != 0) := e
    subst e'
    exact PySem.W.truthy_bytes (by omega) ⟨H, I.tok _, q⟩
  | ref p =>
    cases rx
    have e' : (∃ xs, SqL X.K H p xs ∧ k = !xs.isEmpty) ∨ (∃ xs, SqT X.K H p xs ∧ k = !xs.isEmpty) ∨ ∃ kvs, H p = some (.dK kvs) ∧ k = !kvs.isEmpty := e
    rcases e' with ⟨xs, hx, e'⟩ | ⟨xs, hx, e'⟩ | ⟨kvs, hx, e'⟩
    · subst e'
      obtain ⟨its, r, pl, hz⟩ := I.list hx
      have hlen := r.length
      exact wpAny_truthy_list pl.isList (by simp only [List.size_toArray]; omega) ⟨H, I.tok _, by rw [isEmpty_of r]; exact q⟩
    · subst e'
      obtain ⟨its, r, pl, hz⟩ := I.tuple hx
      have hlen := r.length
      exact truthy_tuple pl (by simp only [List.size_toArray]; omega) ⟨H, I.tok _, by rw [isEmpty_of r]; exact q⟩
    · subst e'
      obtain ⟨hz, hS, vs, r, m⟩ : kvs.length ≤ sizeLine ∧ (p == sysModules) = false ∧ ∃ vs, KV kvs vs ∧ s.heap.DictOf (mixKind X.prog X.w) p vs := I.hok p _ hx
      have hlen : kvs.length = vs.length := Paired.length r
      exact wpAny_truthy_dict hS m (by omega) ⟨H, I.tok _, by rw [isEmpty_kv r]; exact q⟩
  | _ => exact (show False from e).elim
/-- any expression whose test is its value's truth (a name, a call, a subscript, a field ..: he by fun _ => rfl) -/
theorem pt_truth (ha : PE X a ta) (he : ∀ whole, isTrue a X.env whole = (do let v ← whole; standAt a.pos; holding [v] (truthy v))) :
    PT X a (fun σ H Q => ta σ H fun x H' => ∃ k, TruV X.K x H' k ∧ Q k H') := by
  intro pins s σ H Q I h
  exact isTrue_plain (thn (ha pins s σ H _ I h) fun v s1 ⟨x, H1, I1, r1, q1⟩ => tru_ok pins s1 σ H1 x v Q I1 r1 q1) (he _)

/-! ### strs and bytes -/
theorem op_add_str : OpR X (binaryOp .Add) (fun x y H Q => ∃ i j, x = .str i ∧ y = .str j ∧ i.length + j.length ≤ sizeLine ∧ Q (.str (i ++ j)) H) := by
  intro pins s σ H x y v u Q I rx ry h
  obtain ⟨i, j, rfl, rfl, hz, q⟩ := h
  obtain ⟨t, rfl⟩ := rx
  obtain ⟨t', rfl⟩ := ry
  exact add_str (fun t' tk => ⟨.str (i ++ j), H, I.tok _, ⟨_, rfl⟩, q⟩) hz
theorem iop_add_str : OpR X (inplaceOp .Add) (fun x y H Q => ∃ i j, x = .str i ∧ y = .str j ∧ i.length + j.length ≤ sizeLine ∧ Q (.str (i ++ j)) H) := by
  intro pins s σ H x y v u Q I rx ry h
  obtain ⟨i, j, rfl, rfl, hz, q⟩ := h
  obtain ⟨t, rfl⟩ := rx
  obtain ⟨t', rfl⟩ := ry
  exact iadd_str (fun t' tk => ⟨.str (i ++ j), H, I.tok _, ⟨_, rfl⟩, q⟩) hz
/-! ### scalar builtins, by CallR -/
theorem vals1 {x : V} {us : List Value} (r : Vals [x] us) : ∃ u, us = [u] ∧ RelV x u := by
  cases r with
  | cons r1 r2 => cases r2; exact ⟨_, rfl, r1⟩
theorem vals2 {x y : V} {us : List Value} (r : Vals [x, y] us) : ∃ u w', us = [u, w'] ∧ RelV x u ∧ RelV y w' := by
  cases r with
  | cons r1 r2 =>
    cases r2 with
    | cons r3 r4 => cases r4; exact ⟨_, _, rfl, r1, r3⟩
theorem call_abs : CallR X (.builtin "abs") (fun xs H Q => ∃ i, xs = [.int i] ∧ Q (.int (if i < 0 then -i else i)) H) := by
  intro pins s σ H xs us Q I r h
  obtain ⟨i, rfl, q⟩ := h
  obtain ⟨u, rfl, t, rfl⟩ := vals1 r
  exact call_abs_int fun u tk => ⟨.int (if i < 0 then -i else i), H, I.tok _, ⟨_, rfl⟩, q⟩
theorem call_max2 (hc : X.calm = true) : CallR X (.builtin "max") (fun xs H Q => ∃ i j, xs = [.int i, .int j] ∧ Q (.int (if j > i then j else i)) H) := by
  intro pins s σ H xs us Q I r h
  obtain ⟨i, j, rfl, q⟩ := h
  obtain ⟨u, w', rfl, ⟨t, rfl⟩, ⟨t', rfl⟩⟩ := vals2 r
  refine max_two_ints (I.ok.hd hc) fun h' tk k => ⟨_, H, I.kept k, ?_, q⟩
  by_cases hj : j > i
  · rw [if_pos hj, if_pos hj]; exact ⟨_, rfl⟩
  · rw [if_neg hj, if_neg hj]; exact ⟨_, rfl⟩
theorem call_min2 (hc : X.calm = true) : CallR X (.builtin "min") (fun xs H Q => ∃ i j, xs = [.int i, .int j] ∧ Q (.int (if j < i then j else i)) H) := by
  intro pins s σ H xs us Q I r h
  obtain ⟨i, j, rfl, q⟩ := h
  obtain ⟨u, w', rfl, ⟨t, rfl⟩, ⟨t', rfl⟩⟩ := vals2 r
  refine min_two_ints (I.ok.hd hc) fun h' tk k => ⟨_, H, I.kept k, ?_, q⟩
  by_cases hj : j < i
  · rw [if_pos hj, if_pos hj]; exact ⟨_, rfl⟩
  · rw [if_neg hj, if_neg hj]; exact ⟨_, rfl⟩
end
end L2

namespace L2
open PySem PySem.Spec PyProof.Rows

/-! ### an instance, its attributes a map -/
structure ObjM (h : Heap) (x dx C : Addr) (mA : Str → Option Value) : Prop where
  obj : h.get? x = some (PySem.W.instObj C dx)
  ns : h.Ns1 dx mA
  ne : dx ≠ x

theorem lookIn_ns {h : Heap} {dx : Addr} {mA : Str → Option Value} (n : h.Ns1 dx mA) : ∃ od, h.get? dx = some od ∧ ∀ name, PySem.W.lookIn name od = some (mA name) := by
  obtain ⟨o, es, ep, ho, hd, hk, _, hm⟩ := n
  refine ⟨o, ho, fun name => ?_⟩
  have e := hm name
  unfold nsFind findBy at e
  rw [← Array.find?_toList] at e
  unfold PySem.W.lookIn
  rw [hd]
  dsimp only
  split
  · rename_i y q
    rw [q] at e
    exact congrArg some e
  · rename_i q
    rw [q] at e
    have a : es.toList.any (·.refKey) = false := by
      rw [List.any_eq_false]
      intro y hy
      obtain ⟨z, t, hkey⟩ := hk y (Array.mem_toList_iff.mp hy)
      simp [DictEntry.refKey, hkey]
    have a' : ¬ es.toList.any (·.refKey) = true := by rw [a]; exact Bool.false_ne_true
    rw [if_neg a']
    exact congrArg some e

theorem ObjM.look {h : Heap} {x dx C : Addr} {mA : Str → Option Value} (I : ObjM h x dx C mA) : ∃ od, PySem.W.InstAt h x (PySem.W.instObj C dx) C (some od) ∧ ∀ name, PySem.W.lookIn name od = some (mA name) :=
  let ⟨od, ho, hl⟩ := lookIn_ns I.ns
  ⟨od, ⟨I.obj, rfl, rfl, ho⟩, hl⟩

section
variable {prog : Program} {w : World} {A : Around} {E : Value → Shared → Prop} {s : Shared} {K : PySem.W.Frag} {x dx C f : Addr} {mA : Str → Option Value} {name : Str} {v : Value}

end

/-! ### the attributes as a list of pairs -/
section
variable {P : Program} {w : World} {H H' : Hp} {h h' : Heap} {a C dx : Addr} {fs fs' : List (Str × V)}
theorem ins_get (hok : HOk P w H h) (e : H a = some (.ins C dx fs)) : ∃ mA, ObjM h a dx C mA ∧ (∀ f, RelO (fs.lookup f) (mA f)) ∧ PySem.Within mA (fs.map (·.1)) ∧ fs.length ≤ 1000 ∧ H dx = some (.own a) := by
  obtain ⟨d, z, ne, ob, mA, n, r, q⟩ := (show ObjOk P w H h a (.ins C dx fs) from hok a _ e)
  exact ⟨mA, ⟨ob, n, ne⟩, r, q, z, d⟩
end

/-! ### what of the text a class must have -/
structure Cls (K : PySem.W.Frag) (C : Addr) : Prop where
  pg : PySem.W.plainGet K C Str.empty = true
  hd : PySem.W.hasDictIn K C = true
  po : PySem.W.plainOver K C = true
  sa : PySem.W.findIn K (.ref C) "__setattr__" = some (some (.builtin "object.__setattr__"))
theorem Cls.get {K : PySem.W.Frag} {C : Addr} (c : Cls K C) (f : Str) : PySem.W.plainGet K C f = true := c.pg
/-- no class of it has the name -/
def NoAttr (K : PySem.W.Frag) (C : Addr) (f : Str) : Prop := PySem.W.findIn K (.ref C) f = some none
/-- a constant of the class -/
structure Con (K : PySem.W.Frag) (C : Addr) (f : Str) (v : V) (u : Value) : Prop where
  at_ : PySem.W.findIn K (.ref C) f = some (some u)
  rel : RelV v u
  get : PySem.W.specialIn K u "__get__" = some none
  cp : PySem.W.copiedNames.contains f = false
/-- a method: a plain def of the class or of one above it -/
structure Meth (K : PySem.W.Frag) (C : Addr) (m : Str) (f : Addr) : Prop where
  at_ : PySem.W.findIn K (.ref C) m = some (some (.ref f))
  fn : PySem.W.isFn K (.ref f) = true
  kp : PySem.W.keepIn K (.ref f) = true

section
variable {X : Cx} {pins : List (Addr × Obj)} {σ : St} {H : Hp} {s : Shared} {a C dx : Addr} {fs : List (Str × V)} {f : Str} {v : V} {A : Around} {E : Value → Shared → Prop}

end

/-! ### readings and rules -/
/-- e.f, an attribute of the instance -/
inductive FldR (K : PySem.W.Frag) (f : Str) (Q : VK) (x : V) (H1 : Hp) : Prop
  | mk (a C dx : Addr) (fs : List (Str × V)) (v : V) (e : x = .ref a) (h : H1 a = some (.ins C dx fs)) (c : Cls K C) (n : NoAttr K C f) (l : fs.lookup f = some v) (q : Q v H1) : FldR K f Q x H1
section
variable {X : Cx} {o e value : Expr} {f : Str} {pos pos' tpos : Pos} {ta tv : TE}
end

/-! ### isinstance -/
section
variable {X : Cx} {pins : List (Addr × Obj)} {σ : St} {H : Hp} {s : Shared} {A : Around} {E : Value → Shared → Prop} {Q : Value → Shared → Prop} {c : Value} {b : Bool}
/-- the type of a value, as the fragment's deciders take it; for an instance its class -/
inductive TyOf (K : PySem.W.Frag) (H : Hp) : V → Value → Prop where
  | non : TyOf K H .non (.type "NoneType")
  | bl (x : Bool) : TyOf K H (.bl x) (.type "bool")
  | int (i : Int) : TyOf K H (.int i) (.type "int")
  | str (x : Str) : TyOf K H (.str x) (.type "str")
  | flt (x : UInt64) : TyOf K H (.flt x) (.type "float")
  | lst {a : Addr} {xs : List V} (e : H a = some (.lst xs)) : TyOf K H (.ref a) (.type "list")
  | frz {a : Addr} {o : Obj} {xs : List V} (e : H a = some (.frz o (.lst xs))) : TyOf K H (.ref a) (.type "list")
  | tup {a : Addr} {xs : List V} (e : H a = some (.tup xs)) : TyOf K H (.ref a) (.type "tuple")
  | dK {a : Addr} {kvs : List (Key × V)} (e : H a = some (.dK kvs)) : TyOf K H (.ref a) (.type "dict")
  | dT {a : Addr} {kvs : List (List Key × V)} (e : H a = some (.dT kvs)) : TyOf K H (.ref a) (.type "dict")
  | ins {a C dx : Addr} {fs : List (Str × V)} (e : H a = some (.ins C dx fs)) (cl : Cls K C) (ha : PySem.W.findIn K (.ref C) "__class__" = some (some (.builtin "object.__class__")))
      (hn : PySem.W.specialIn K (.builtin "object.__class__") "__get__" = some (some (.builtin "getset_descriptor.__get__"))) (htk : PySem.W.takesIn K (.builtin "object.__class__") = some true)
      (hm : PySem.W.mroIn K C (.type "object") = some true) : TyOf K H (.ref a) (.ref C)
/-- isinstance(x, c) for one class c, a built-in or an own one: kitOne's answer -/
theorem isinst_ok {x : V} {u t : Value} (I : Inv X pins σ H s) (rx : RelV x u) (ty : TyOf X.K H x t) (e : PySem.W.kitOne X.K t c = some b) (h : ∀ tk, Q (.bool b) { s with toks := tk }) :
    wpAny (model X.prog X.w) A (call (.builtin "isinstance") [u, c]) Q E s := by
  cases ty with
  | non => cases (show u = Value.none from rx); exact PySem.W.kia_one PySem.W.kitx_none I.kIn True.intro e (fun z => nomatch z) h
  | bl y => cases (show u = Value.bool y from rx); exact PySem.W.kia_one PySem.W.kitx_bool I.kIn True.intro e (fun z => nomatch z) h
  | int i => obtain ⟨t, q⟩ := (show ∃ t, u = Value.int i t from rx); cases q; exact PySem.W.kia_one PySem.W.kitx_int I.kIn True.intro e (fun z => nomatch z) h
  | str y => obtain ⟨t, q⟩ := (show ∃ t, u = Value.str y t from rx); cases q; exact PySem.W.kia_one PySem.W.kitx_str I.kIn True.intro e (fun z => nomatch z) h
  | flt y => obtain ⟨t, q⟩ := (show ∃ t, u = Value.float y t from rx); cases q; exact PySem.W.kia_one PySem.W.kitx_float I.kIn True.intro e (fun z => nomatch z) h
  | @lst a xs ea =>
    cases (show u = Value.ref a from rx)
    obtain ⟨_, _, n, _, h1⟩ := (show ObjOk X.prog X.w H s.heap a (.lst xs) from I.hok a _ ea)
    exact PySem.W.kia_one PySem.W.kitx_list I.kIn ⟨_, h1, rfl⟩ e (fun z => nomatch z) h
  | @frz a ob xs ea =>
    cases (show u = Value.ref a from rx)
    obtain ⟨_, _, _, n, _, h1⟩ := (show ObjOk X.prog X.w H s.heap a (.frz ob (.lst xs)) from I.hok a _ ea)
    exact PySem.W.kia_one PySem.W.kitx_list I.kIn ⟨_, h1, rfl⟩ e (fun z => nomatch z) h
  | @tup a xs ea =>
    cases (show u = Value.ref a from rx)
    obtain ⟨_, _, _, p⟩ := (show ObjOk X.prog X.w H s.heap a (.tup xs) from I.hok a _ ea)
    obtain ⟨o, h1, h2, _⟩ := p
    exact PySem.W.kia_one PySem.W.kitx_tuple I.kIn ⟨o, h1, h2⟩ e (fun z => nomatch z) h
  | @dK a kvs ea =>
    cases (show u = Value.ref a from rx)
    obtain ⟨_, _, vs, _, p⟩ := (show ObjOk X.prog X.w H s.heap a (.dK kvs) from I.hok a _ ea)
    obtain ⟨o, es, ep, h1, h2, _⟩ := p
    exact PySem.W.kia_one PySem.W.kitx_dict I.kIn ⟨o, h1, h2.1⟩ e (fun z => nomatch z) h
  | @dT a kvs ea =>
    cases (show u = Value.ref a from rx)
    obtain ⟨_, _, xs, _, o, es, ep, h1, h2, _⟩ := (show ObjOk X.prog X.w H s.heap a (.dT kvs) from I.hok a _ ea)
    exact PySem.W.kia_one PySem.W.kitx_dict I.kIn ⟨o, h1, h2.1⟩ e (fun z => nomatch z) h
  | @ins a C dx fs ea cl ha hn htk hm =>
    cases (show u = Value.ref a from rx)
    obtain ⟨mA, O, _⟩ := ins_get I.hok ea
    obtain ⟨od, J, _⟩ := O.look
    exact PySem.W.kia_one (PySem.W.kitx_own (cl.get _) cl.hd ha hn htk hm) I.kIn J e (fun z => nomatch z) h
end
end L2

namespace L2
open PySem PySem.Spec PyProof.Rows

/-! ### room -/
structure Room (k : Nat) (A : Around) : Prop where
  hd : A.handled = none
  dp : A.depth + 3 * k + 5 < recursionLimit
  un : A.units + 16 * k + 200 < cLine
  gu : A.guards = some []
theorem Room.mono {j k : Nat} {A : Around} (r : Room k A) (h : j ≤ k) : Room j A := ⟨r.hd, by have := r.dp; omega, by have := r.un; omega, r.gu⟩
theorem Room.deeper {k : Nat} {A : Around} (r : Room (k + 1) A) (env : Env) : Room k (A.deeper env) :=
  ⟨r.hd, by have := r.dp; show A.depth + 1 + 3 * k + 5 < _; omega, by have := r.un; show A.units + 3 + 16 * k + 200 < _; omega, r.gu⟩
theorem Room.in1 {k : Nat} {A : Around} (r : Room (k + 1) A) : Room k A.in1 :=
  ⟨r.hd, by have := r.dp; show A.depth + 3 * k + 5 < _; omega, by have := r.un; show A.units + 1 + 16 * k + 200 < _; omega, r.gu⟩
theorem Room.depth {k : Nat} {A : Around} (r : Room k A) : A.depth < recursionLimit := by have := r.dp; omega
theorem Room.units0 {k : Nat} {A : Around} (r : Room k A) : A.units < cLine := by have := r.un; omega

/-! ### argument lists and displays -/
def tNil : TA := fun _ H Q => Q [] H
def tCons (ta : TE) (tr : TA) : TA := fun σ H Q => ta σ H fun x H1 => tr σ H1 fun xs H2 => Q (x :: xs) H2
section
variable {X : Cx} {e : Expr} {es : List Expr} {te : TE} {t : TA} {pos : Pos}
theorem pa_nil : PA X [] tNil := fun _ _ _ _ H Q I h => Calls.spliced_nil ⟨[], H, I, .nil, h⟩
theorem pa_cons (ha : PE X e te) (hr : PA X es t) (hs : starEach (e :: es) X.env = (false, eval e X.env) :: starEach es X.env := by rfl) : PA X (e :: es) (tCons te t) := by
  intro pos pins s σ H Q I h
  rw [hs]
  show wpAny _ _ (spliced ((false, eval e X.env) :: backTo pos (starEach es X.env))) _ _ s
  refine Calls.spliced_cons (thn (ha pins s σ H _ I h) fun u s1 ⟨x, H1, I1, r1, q1⟩ => ?_)
  exact thn (hr pos pins s1 σ H1 _ I1 q1) fun us s2 ⟨xs, H2, I2, r2, q2⟩ => ⟨x :: xs, H2, I2, .cons r1 r2, q2⟩

/-- a tuple, a list of written items -/
def tTup (t : TA) : TE := fun σ H Q => t σ H fun xs H1 => xs.length ≤ sizeLine ∧ ∀ p, H1 p = none → Q (.ref p) (upd H1 p (.tup xs))
def tLst (t : TA) : TE := fun σ H Q => t σ H fun xs H1 => xs.length ≤ sizeLine ∧ ∀ p, H1 p = none → Q (.ref p) (upd H1 p (.lst xs))
theorem pe_tup {x1} (h : PA X es t) : PE X (.Tuple es x1 pos) (tTup t) := by
  intro pins s σ H Q I hq
  refine wpAny_Tuple_spliced (thn (h pos pins s σ H _ I hq) fun us s1 ⟨xs, H1, I1, r, z, q⟩ => ⟨by rw [← r.length]; exact z, ?_⟩)
  have hf : H1 s1.heap.objs.size = none := I1.hok.fresh (Nat.le_refl _)
  refine ⟨.ref s1.heap.objs.size, upd H1 s1.heap.objs.size (.tup xs), I1.laid (t' := s1.toks) (fun b u e => Heap.get?_push_of_some _ e) (Nat.le_refl _) ?_, rfl, q _ hf⟩
  exact ⟨z, us, r, ⟨_, Heap.get?_push_size _ rfl, rfl, _, rfl⟩⟩
theorem pe_lst (h : PA X es t) : PE X (.List es pos) (tLst t) := by
  intro pins s σ H Q I hq
  refine wpAny_List_spliced (thn (h pos pins s σ H _ I hq) fun us s1 ⟨xs, H1, I1, r, z, q⟩ => ⟨by rw [← r.length]; exact z, ?_⟩)
  have hf : H1 s1.heap.objs.size = none := I1.hok.fresh (Nat.le_refl _)
  refine ⟨.ref s1.heap.objs.size, upd H1 s1.heap.objs.size (.lst xs), I1.laid (t' := s1.toks) (fun b u e => Heap.get?_push_of_some _ e) (Nat.le_refl _) ?_, rfl, q _ hf⟩
  exact ⟨z, us, 0, r, Heap.get?_push_size _ rfl⟩
end

/-! ### what a def promises -/
/-- a def's promise: the bound arguments in the parameters' order, the heap, the wanted end, the wanted exception -/
abbrev Sp := List V → Hp → VK → XK → Prop
/-- how an exception lies behind a call (file 08 gives it): the callers' frames, abstract heap and state ahead of the call, the wish, the exception, the state -/
abbrev CXT := List Env → Hp → Shared → XK → Value → Shared → Prop

/-- the state at a call -/
structure Env0 (P : Program) (w : World) (K : PySem.W.Frag) (mg : Str → Option Value) (base : Heap) (A : Around) (outer : List Env) (s : Shared) (H : Hp) : Prop where
  frames : A.frames = some outer
  mod : Mod K mg base
  bs : ∀ b o, base.get? b = some o → s.heap.get? b = some o ∧ H b = none
  bsz : base.objs.size ≤ s.heap.objs.size
  funs : s.heap.FunFrames base outer
  frf : ∀ b ∈ frs outer, H b = none
  hok : HOk P w H s.heap
  bare : AllBare s.gens
/-- a call's end -/
def CE (outer : List Env) (P : Program) (w : World) (H : Hp) (s : Shared) (Q : VK) (u : Value) (s' : Shared) : Prop :=
  ∃ v H', s'.os = s.os ∧ AllBare s'.gens ∧ Un (frs outer) [] H H' s.heap s'.heap ∧ HOk P w H' s'.heap ∧ RelV v u ∧ Q v H'
def CR (CX : CXT) (outer : List Env) (P : Program) (w : World) (H : Hp) (s : Shared) (Q : VK) (E : XK) (r : Result) (s' : Shared) : Prop :=
  match r with
  | .ok (.ret u) => CE outer P w H s Q u s'
  | .ok _ => False
  | .error e => CX outer H s E e s'
structure FnOk (P : Program) (w : World) (K : PySem.W.Frag) (mg : Str → Option Value) (base : Heap) (CX : CXT) (k : Nat) (f : Addr) (fd : FuncData) (ps : List Str) (sp : Sp) : Prop where
  len : ∀ vs H Q E, sp vs H Q E → vs.length = ps.length
  run : ∀ (A : Around) (outer : List Env) (s : Shared) (H : Hp) (args : Args) (us : List Value) (vs : List V) (Q : VK) (E : XK), Room k A → Env0 P w K mg base A outer s H → BindsTo s fd args (ps.zip us) → Vals vs us → sp vs H Q E →
    codeAny (model P w) A (.call (.ref f) args) (CR CX outer P w H s Q E) s
section
variable {X : Cx} {pins : List (Addr × Obj)} {σ : St} {H : Hp} {s s' : Shared}
/-- from a body: what a callee wants -/
theorem Inv.env0 (I : Inv X pins σ H s) : Env0 X.prog X.w X.K X.mg X.base X.A X.stack s H :=
  ⟨I.ok.frames, I.ok.mod, I.bs, Nat.le_trans I.ok.bsz I.sz, I.stack, I.stkFree, I.hok, I.bare⟩
/-- behind a call -/
theorem Inv.after {Q : VK} {u : Value} (I : Inv X pins σ H s) (h : CE X.stack X.prog X.w H s Q u s') : EP X pins σ Q u s' := by
  obtain ⟨v, H', os, bare, un, hok, r, q⟩ := h
  obtain ⟨hh, g, d, t, os'⟩ := s'
  obtain rfl : os' = s.os := os
  exact ⟨v, H', I.call (h' := hh) (g' := g) (d' := d) (t' := t) (ch := []) un hok bare (fun b z => absurd z (by simp)), r, q⟩
end

/-! ### calls -/
/-- f(..): the written arguments, then the defaults dvs; E: what is wanted of an exception -/
def tCall (sp : Sp) (dvs : List V) (E : XK) (t : TA) : TE := fun σ H Q => t σ H fun vs H1 => sp (vs ++ dvs) H1 Q E
/-- how the parameters are bound: us the positional arguments, kw the keywords' values by name, ds the defaults that fill up -/
def Binds (K : PySem.W.Frag) (fd : FuncData) (ps : List Str) (ds : List Value) : Prop :=
  ∀ (s : Shared) (us : List Value), K.In s.heap → (us ++ ds).length = ps.length → BindsTo s fd ⟨us, []⟩ (ps.zip (us ++ ds))
/-- every parameter is given -/
theorem Binds.all {K : PySem.W.Frag} {fd : FuncData} {ps : List Str} (h : ∀ us : List Value, us.length = ps.length → bindArgs fd ⟨us, []⟩ = pure (ps.zip us)) : Binds K fd ps [] := fun s us _ hl => by
  rw [List.append_nil] at hl ⊢
  exact .of_eq (h us hl)

/-- an exception of a callee reaches what this body wants of exceptions -/
def Passes (CX : CXT) (X : Cx) (E : XK) : Prop := ∀ (pins : List (Addr × Obj)) (σ : St) (H : Hp) (s : Shared) (e : Value) (s' : Shared), Inv X pins σ H s → CX X.stack H s E e s' → X.xe e s'

section
variable {X : Cx} {CX : CXT} {k : Nat} {f C : Addr} {fd : FuncData} {ps : List Str} {sp : Sp} {dvs : List V} {ds : List Value} {E : XK} {x m : Str} {p pos apos : Pos} {e o : Expr} {es : List Expr} {ta : TE} {t : TA}

/-- the callee runs -/
theorem run_fn {pins : List (Addr × Obj)} {σ : St} {H : Hp} {s : Shared} {Q : VK} {us : List Value} {vs : List V} (F : FnOk X.prog X.w X.K X.mg X.base CX k f fd ps sp) (hr : Room k X.A) (hb : Binds X.K fd ps ds) (hd : Vals dvs ds) (hx : Passes CX X E)
    (I : Inv X pins σ H s) (r : Vals vs us) (h : sp (vs ++ dvs) H Q E) : wpAny (model X.prog X.w) X.A (call (.ref f) us) (EP X pins σ Q) X.xe s := by
  have r2 : Vals (vs ++ dvs) (us ++ ds) := r.append hd
  have hl : (us ++ ds).length = ps.length := by rw [← r2.length]; exact F.len _ _ _ _ h
  refine wpAny_call (codeAny_mono (F.run X.A X.stack s H ⟨us, []⟩ (us ++ ds) (vs ++ dvs) Q E hr I.env0 (hb s us I.kIn hl) r2 h) fun r s' hq => ?_)
  cases r with
  | error e => exact hx pins σ H s e s' I hq
  | ok fl =>
    cases fl with
    | ret u => exact I.after hq
    | next => exact False.elim hq
    | brk => exact False.elim hq
    | cont => exact False.elim hq

theorem pe_call (F : FnOk X.prog X.w X.K X.mg X.base CX k f fd ps sp) (hr : Room k X.A) (hg : Gl X x) (hm : X.mg x = some (.ref f)) (hk : PySem.W.keepIn X.K (.ref f) = true) (hb : Binds X.K fd ps ds) (hd : Vals dvs ds) (hx : Passes CX X E)
    (ha : PA X (e :: es) t) (hdb : (x == ("__debug__" : Str)) = false := by decide) (he : starEach (e :: es) X.env = (false, eval e X.env) :: starEach es X.env := by rfl) (hpl : (backTo pos (starEach es X.env)).any (·.1) = false := by rfl) :
    PE X (.Call (.Name x p) (e :: es) [] pos) (tCall sp dvs E t) := by
  intro pins s σ H Q I h
  refine wpAny_Call_Name_kw (ld_glob I hg hm ?_ hdb)
  refine PySem.W.callWith_K (h₀ := X.base) I.ok.mod.kin hk (thn (ha pos pins s σ H _ I h) fun us s1 ⟨vs, H1, I1, r, q⟩ => ⟨I1.kIn, ?_⟩) he hpl
  exact run_fn F hr hb hd hx I1 r q
/-- what a class must have to be made -/
structure Mk (K : PySem.W.Frag) (C f : Addr) : Prop where
  makes : PySem.W.makesIn K C = true
  init : PySem.W.findIn K (.ref C) "__init__" = some (some (.ref f))
  fn : PySem.W.isFn K (.ref f) = true
  kp : PySem.W.keepIn K (.ref C) = true

end

/-! ### keywords -/
section
variable {X : Cx} {CX : CXT} {k : Nat} {f C : Addr} {fd : FuncData} {ps ks : List Str} {sp : Sp} {E : XK} {x m : Str} {p pos apos kpos : Pos} {e o : Expr} {es : List Expr} {kws : List Keyword} {te ta : TE} {t tk : TA} {nm : Option Str}
/-- how a call with keywords binds: g puts the positional values us and the keywords' values ws (names ks) in the parameters' order, defaults among them -/
structure KBinds (K : PySem.W.Frag) (fd : FuncData) (ps ks : List Str) (g : List Value → List Value → List Value) (gV : List V → List V → List V) : Prop where
  to : ∀ (s : Shared) (us ws : List Value), K.In s.heap → (g us ws).length = ps.length → BindsTo s fd ⟨us, ks.zip ws⟩ (ps.zip (g us ws))
  rel : ∀ {vs : List V} {us : List Value} {zs : List V} {ws : List Value}, Vals vs us → Vals zs ws → Vals (gV vs zs) (g us ws)
variable {g : List Value → List Value → List Value} {gV : List V → List V → List V}
end

/-! ### a def's body keeps its promise -/
/-- names: the parameters first -/
structure FnScope (N P : List Str) (sc : Scope) : Prop where
  kind : sc.kind = .function
  co : sc.isCoroutine = false
  gen : sc.isGenerator = false
  nd : N.Nodup
  pre : N.take P.length = P
  par : ∀ x ∈ P, sc.names.lookup x = some .local ∨ sc.names.lookup x = some .cell
  nofree : ∀ y ∈ sc.names, y.2 ≠ .free

theorem bindL_out {kindOf : Str → Option NameKind} {x : Str} : ∀ {binds : List (Str × Value)} {m : Str → Option Value}, (∀ v, (x, v) ∉ binds) → bindL kindOf binds m x = m x
  | [], _, _ => rfl
  | (n, v) :: r, m, h => by
    unfold bindL
    rw [bindL_out fun w hw => h w (List.mem_cons_of_mem _ hw)]
    split
    · have : x ≠ n := by rintro rfl; exact h v List.mem_cons_self
      simp [this]
    · rfl
theorem bindC_out {kindOf : Str → Option NameKind} {x : Str} : ∀ {binds : List (Str × Value)} {m : Str → Option Value}, (∀ v, (x, v) ∉ binds) → bindC kindOf binds m x = m x
  | [], _, _ => rfl
  | (n, v) :: r, m, h => by
    unfold bindC
    rw [bindC_out fun w hw => h w (List.mem_cons_of_mem _ hw)]
    split
    · rfl
    · have : x ≠ n := by rintro rfl; exact h v List.mem_cons_self
      simp [this]
theorem bindL_get {kindOf : Str → Option NameKind} {x : Str} {v : Value} : ∀ {P : List Str} {vs : List Value} {i : Nat} {m : Str → Option Value}, P.Nodup → P[i]? = some x → vs[i]? = some v → kindOf x = some .local →
    bindL kindOf (P.zip vs) m x = some v
  | [], _, _, _, _, h, _, _ => by simp at h
  | _ :: _, [], _, _, _, _, h, _ => by simp at h
  | p :: P, w :: vs, 0, m, nd, h1, h2, hk => by
    simp at h1 h2; subst h1; subst h2
    show bindL kindOf ((p, w) :: P.zip vs) m p = _
    unfold bindL
    rw [bindL_out fun v hv => (List.nodup_cons.mp nd).1 (List.of_mem_zip hv).1, if_pos hk]
    simp
  | p :: P, w :: vs, i + 1, m, nd, h1, h2, hk => by
    show bindL kindOf ((p, w) :: P.zip vs) m x = _
    unfold bindL
    exact bindL_get (i := i) (List.nodup_cons.mp nd).2 (by simpa using h1) (by simpa using h2) hk
theorem bindC_get {kindOf : Str → Option NameKind} {x : Str} {v : Value} : ∀ {P : List Str} {vs : List Value} {i : Nat} {m : Str → Option Value}, P.Nodup → P[i]? = some x → vs[i]? = some v → kindOf x ≠ some .local →
    bindC kindOf (P.zip vs) m x = some v
  | [], _, _, _, _, h, _, _ => by simp at h
  | _ :: _, [], _, _, _, _, h, _ => by simp at h
  | p :: P, w :: vs, 0, m, nd, h1, h2, hk => by
    simp at h1 h2; subst h1; subst h2
    show bindC kindOf ((p, w) :: P.zip vs) m p = _
    unfold bindC
    rw [bindC_out fun v hv => (List.nodup_cons.mp nd).1 (List.of_mem_zip hv).1, if_neg hk]
    simp
  | p :: P, w :: vs, i + 1, m, nd, h1, h2, hk => by
    show bindC kindOf ((p, w) :: P.zip vs) m x = _
    unfold bindC
    exact bindC_get (i := i) (List.nodup_cons.mp nd).2 (by simpa using h1) (by simpa using h2) hk

/-- the names' values at the entry -/
def start (N : List Str) (vs : List V) : St := vs.map some ++ List.replicate (N.length - vs.length) none

/-- the context of a def's body, at its entry; an exception leaves the frame, then lies as CX says -/
def cxOf (CX : CXT) (P : Program) (w : World) (K : PySem.W.Frag) (mg : Str → Option Value) (base : Heap) (N : List Str) (qual : Str) (scope : Scope) (f : Addr) (cd : Value) (A : Around) (outer : List Env) (s : Shared) (H : Hp) (E : XK) : Cx where
  prog := P
  w := w
  K := K
  mg := mg
  base := base
  A := A.deeper (envOfC qual scope s.heap.objs.size f cd)
  N := N
  s₀ := s
  H₀ := H
  env := envOfC qual scope s.heap.objs.size f cd
  outer := outer
  stack := envOfC qual scope s.heap.objs.size f cd :: outer
  ex := []
  calm := true
  fn := fun _ => true
  pn := []
  xe := fun e s' => wpAny (model P w) (A.deeper (envOfC qual scope s.heap.objs.size f cd)) (leaving (envOfC qual scope s.heap.objs.size f cd) e) (fun _ s'' => CX outer H s E e s'') (fun e' s'' => CX outer H s E e' s'') s'

theorem cell_has {sc : Scope} {n : Nat} {x : Str} (h : sc.names.lookup x = some .cell) : ∃ c, (cellsFrom n sc.names []).lookup x = some c := by
  have q := PySem.W.cellsFrom_some sc.names n [] (.inl h)
  exact Option.isSome_iff_exists.mp q

theorem inv_start {CX : CXT} {P : Program} {w : World} {K : PySem.W.Frag} {mg : Str → Option Value} {base : Heap} {N ps : List Str} {qual : Str} {scope : Scope} {f : Addr} {cd : Value} {A : Around} {outer : List Env} {s s1 : Shared} {H : Hp} {E : XK} {us : List Value} {vs : List V}
    (S : FnScope N ps scope) (hd : A.handled = none) (e0 : Env0 P w K mg base A outer s H) (hl : vs.length = ps.length) (r : Vals vs us)
    (x : InCallC s s.heap.objs.size (bindL (envOfC qual scope s.heap.objs.size f cd).kindOf (ps.zip us) fun _ => none) (cellsFrom (s.heap.objs.size + 1) scope.names []) (bindC (envOfC qual scope s.heap.objs.size f cd).kindOf (ps.zip us) fun _ => none) s1) :
    Inv (cxOf CX P w K mg base N qual scope f cd A outer s H E) [] (start N vs) H s1 := by
  have hpl : ps.length ≤ N.length := by have := congrArg List.length S.pre; rw [List.length_take] at this; omega
  obtain ⟨h1, tk, rfl, hk⟩ := x.done
  have noA : ∀ b : Addr, b ∉ (cxOf CX P w K mg base N qual scope f cd A outer s H E).ex := fun b z => absurd (show b ∈ ([] : List Addr) from z) (by simp)
  refine ⟨⟨e0.mod, S.kind, rfl, rfl, Nat.le_refl _, fun y z c h1 h2 => ?_, fun y hy => ?_, fun y c _ h => ?_, fun _ => hd, Around.frames_deeper e0.frames, .inr ⟨rfl, rfl⟩, fun b z => absurd z (noA b), e0.bs, e0.bsz, fun b _ _ => noA b, fun b z => absurd z (noA b), e0.funs, e0.frf⟩,
    rfl, e0.bare, Un.kept hk, ⟨_, x.toInCall.ns, fun i y v h1 h2 h3 => ?_⟩, fun y c h => ⟨_, x.cell y c h⟩, e0.hok.fresh (Nat.le_refl _), fun y c h => ?_, fun p hp => absurd (show p ∈ ([] : List (Addr × Obj)) from hp) (by simp), e0.hok.kept hk, ?_⟩
  · exact name_of_addr x.apart (PySem.mem_of_lookup h1) (PySem.mem_of_lookup h2)
  · have hy : scope.names.lookup y = some .cell ∨ scope.names.lookup y = some .free := hy
    rcases hy with hy | hy
    · exact cell_has hy
    · exact absurd rfl (S.nofree _ (PySem.mem_of_lookup hy))
  · exact Nat.le_of_lt (x.above y c (PySem.mem_of_lookup h))
  · have hi : i < vs.length := by
      unfold start at h2
      by_cases hi : i < vs.length
      · exact hi
      · rw [List.getElem?_append_right (by simpa using hi)] at h2
        rw [List.getElem?_replicate] at h2
        split at h2 <;> cases h2
    have ha : vs[i]? = some v := by
      unfold start at h2
      rw [List.getElem?_append_left (by simpa using hi), List.getElem?_map] at h2
      cases e : vs[i]? with
      | none => rw [e] at h2; cases h2
      | some a => rw [e] at h2; cases h2; rfl
    obtain ⟨u, hu, rv⟩ := r.get ha
    have hp : ps[i]? = some y := by
      rw [← S.pre, List.getElem?_take_of_lt (by omega)]; exact h1
    have ndP : ps.Nodup := by rw [← S.pre]; exact S.nd.sublist (List.take_sublist _ _)
    refine ⟨u, rv, ?_⟩
    rcases S.par y (List.mem_of_getElem? hp) with k | k
    · exact .inl ⟨k, bindL_get ndP hp hu k⟩
    · obtain ⟨c, e⟩ := cell_has (n := s.heap.objs.size + 1) k
      refine .inr ⟨.inl k, c, e, ?_⟩
      have q := x.cell y c e
      rw [bindC_get ndP hp hu (by show scope.names.lookup y ≠ _; rw [k]; decide)] at q
      exact q
  · exact e0.hok.fresh (Nat.le_of_lt (x.above y c (PySem.mem_of_lookup h)))
  · unfold start
    show _ = N.length
    rw [List.length_append, List.length_map, List.length_replicate]
    omega

/-- THE RULE: a def (or a method) of the text, by its body. The body's reading t is chosen for each entry; it is run at the parameters' values -/
theorem fn_of {CX : CXT} {P : Program} {w : World} {K : PySem.W.Frag} {mg : Str → Option Value} {base : Heap} {k : Nat} {f : Addr} {name qual : Str} {params : Arguments} {body : List Stmt} {scope : Scope} {dV kV doc pm cdv ct oc : Value} {an od : Option Addr}
    {osl : Array (Option Value)} {N ps : List Str} {sp : Sp} (lk : K.lookup f = some ⟨oc, od, .func (PySem.W.fnOf name qual params body scope dV kV doc pm an cdv ct), osl⟩) (hcd : PySem.W.codeIn K cdv qual = true) (S : FnScope N ps scope)
    (len : ∀ vs H Q E, sp vs H Q E → vs.length = ps.length)
    (hbody : ∀ (A : Around) (outer : List Env) (s : Shared) (H : Hp) (vs : List V) (Q : VK) (E : XK), Room k (A.deeper (envOfC qual scope s.heap.objs.size f cdv)) → sp vs H Q E →
      ∃ t, PSs (cxOf CX P w K mg base N qual scope f cdv A outer s H E) body t ∧ t { nx := fun _ H' => Q .non H', rt := Q } (start N vs) H) :
    FnOk P w K mg base CX (k + 1) f (PySem.W.fnOf name qual params body scope dV kV doc pm an cdv ct) ps sp := by
  refine ⟨len, fun A outer s H args us vs Q E hr e0 hb r hsp => ?_⟩
  have hl := len _ _ _ _ hsp
  have KX : K.In s.heap := e0.mod.kin.keeps fun b o e => (e0.bs b o e).1
  have lim : s.heap.NoLimit := e0.mod.nolimit.keeps fun b o e => (e0.bs b o e).1
  have hkind : ∀ y ∈ ps.zip us, scope.names.lookup y.1 = some .local ∨ (scope.names.lookup y.1 = some .cell ∧ ((cellsFrom (s.heap.objs.size + 1) scope.names []).lookup y.1).isSome = true) := fun ⟨n, v⟩ hy => by
    rcases S.par n (List.of_mem_zip hy).1 with q | q
    · exact .inl q
    · exact .inr ⟨q, PySem.W.cellsFrom_some _ _ _ (.inl q)⟩
  refine codeAny_call_function hr.depth (KX _ _ lk) rfl S.co S.gen rfl (PySem.W.codeRec_of KX hcd) (hb _ _ _ _ ?_)
  refine wpAny_newFunctionEnv_cells S.kind hkind fun env he s1 x => ?_
  subst he
  refine ⟨lim.keeps x.toInCall.keep, codeAny_func ?_⟩
  obtain ⟨t, ht, hq⟩ := hbody A outer s H vs Q E (hr.deeper _) hsp
  have I : Inv (cxOf CX P w K mg base N qual scope f cdv A outer s H E) [] (start N vs) H s1 := inv_start S hr.hd e0 hl r x
  refine wpAny_mono (ht [] s1 (start N vs) H _ I hq) (fun fl s' hs => ?_) fun e s' hs => hs
  have fin : ∀ {σ' : St} {H' : Hp} {v : V} {u : Value}, Inv (cxOf CX P w K mg base N qual scope f cdv A outer s H E) [] σ' H' s' → RelV v u → Q v H' → CE outer P w H s Q u s' :=
    fun {σ' H' v u} J rv q => ⟨v, H', J.os, J.bare, J.base, J.hok, rv, q⟩
  cases fl with
  | ret u =>
    obtain ⟨v, σ', H', J, rv, q⟩ := hs
    exact fin J rv q
  | next =>
    obtain ⟨σ', H', J, q⟩ := hs
    exact fin (v := V.non) (u := Value.none) J rfl q
  | brk =>
    obtain ⟨_, _, _, q⟩ := hs
    exact False.elim q
  | cont =>
    obtain ⟨_, _, _, q⟩ := hs
    exact False.elim q
end L2

namespace L2
open PySem PySem.Spec PyProof.Rows
section
variable {X : Cx} {x : Str} {p pos : Pos} {e : Expr} {es : List Expr} {t : TA} {id T : String} {r : List V → Hp → VK → Prop}

def tCB (r : List V → Hp → VK → Prop) (t : TA) : TE := fun σ H Q => t σ H fun vs H1 => r vs H1 Q
/-- f(e, ..), f a built-in function -/
theorem pe_callB (hc : CallR X (.builtin id) r) (hg : Gl X x) (hm : X.mg x = none) (hv : bootBuiltins x = some (.builtin id)) (ha : PA X (e :: es) t) (hn : x ≠ "__name__" := by decide) (hdb : (x == ("__debug__" : Str)) = false := by decide)
    (he : starEach (e :: es) X.env = (false, eval e X.env) :: starEach es X.env := by rfl) (hpl : (backTo pos (starEach es X.env)).any (·.1) = false := by rfl) : PE X (.Call (.Name x p) (e :: es) [] pos) (tCB r t) := by
  intro pins s σ H Q I h
  refine wpAny_Call_Name_kw (ld_blt I hg hm hv ?_ hn hdb)
  exact PyProof.Rows.callWith_builtin1 (thn (ha pos pins s σ H _ I h) fun us s1 ⟨vs, H1, I1, r1, q1⟩ => hc pins s1 σ H1 vs us Q I1 r1 q1) he hpl
/-- T(e, ..), T a built-in type -/
theorem pe_callTy (hc : CallR X (.type T) r) (hg : Gl X x) (hm : X.mg x = none) (hv : bootBuiltins x = some (.type T)) (ha : PA X (e :: es) t) (hn : x ≠ "__name__" := by decide) (hdb : (x == ("__debug__" : Str)) = false := by decide)
    (he : starEach (e :: es) X.env = (false, eval e X.env) :: starEach es X.env := by rfl) (hpl : (backTo pos (starEach es X.env)).any (·.1) = false := by rfl) : PE X (.Call (.Name x p) (e :: es) [] pos) (tCB r t) := by
  intro pins s σ H Q I h
  refine wpAny_Call_Name_kw (ld_blt I hg hm hv ?_ hn hdb)
  exact PyProof.Rows.callWith_type1 (thn (ha pos pins s σ H _ I h) fun us s1 ⟨vs, H1, I1, r1, q1⟩ => hc pins s1 σ H1 vs us Q I1 r1 q1) he hpl
end
end L2

namespace HT
open PySem PyProof.Rows

/-- t < u of tuples of ints -/
def lexLt : List Int → List Int → Bool
  | [], [] => false
  | [], _ :: _ => true
  | _ :: _, [] => false
  | x :: xs, y :: ys => if x = y then lexLt xs ys else decide (x < y)
theorem eqAt_int (A : Around) (s : Shared) (a : Int) (t : Tok) (c : Int) (u : Tok) : ∃ e, SeqAt.EqAt A s (.int a t) (.int c u) e ∧ (e = true ↔ a = c) :=
  ⟨(a == c), SeqAt.EqAt.int_int a t c u, by simp⟩
theorem rcLt_int (A : Around) (s : Shared) (a : Int) (t : Tok) (c : Int) (u : Tok) (prog : Program) (w : World) (E : Value → Shared → Prop) (Q : Value → Shared → Prop) (h : Q (.bool (decide (a < c))) s) :
    wpAny (model prog w) A (richCompare .Lt (.int a t) (.int c u)) Q E s :=
  (PyProof.Rows.lt_int h : wpAny (model prog w) A (compareOp .Lt (.int a t) (.int c u)) Q E s)

section
open PySem.SeqAt
open PySem.AutoSeq1 (wpAny_loadPart')
open PySem.MeetsSeq PySem.MeetsSeq2 PySem.MeetsSeq3

end

section
variable {prog : Program} {w : World} {A : Around} {E : Value → Shared → Prop} {s : Shared}

/-! ### t[a:b], not the whole -/
/-- a slice's bound as a place among n (d where it is left out) -/
def sIx (n d : Nat) : Option Int → Nat
  | none => d
  | some v => if v < 0 then (v + (n : Int)).toNat else min v.toNat n
theorem sIx_none (n d : Nat) : sIx n d none = d := rfl
theorem sIx_nat (n d k : Nat) : sIx n d (some (k : Int)) = min k n := by
  show (if (k : Int) < 0 then ((k : Int) + (n : Int)).toNat else min (k : Int).toNat n) = min k n
  rw [if_neg (by omega), Int.toNat_natCast]
theorem sIx_le (n d : Nat) (hd : d ≤ n) (o : Option Int) : sIx n d o ≤ n := by
  cases o with
  | none => exact hd
  | some v =>
    show (if v < 0 then (v + (n : Int)).toNat else min v.toNat n) ≤ n
    by_cases hv : v < 0
    · rw [if_pos hv]; omega
    · rw [if_neg hv]; exact Nat.min_le_right _ _
theorem clip_eq (v : Int) (n d : Nat) : (if v < 0 then max (v + (n : Int)) 0 else min v (n : Int)) = ((sIx n d (some v) : Nat) : Int) := by
  show (if v < 0 then max (v + (n : Int)) 0 else min v (n : Int)) = (((if v < 0 then (v + (n : Int)).toNat else min v.toNat n) : Nat) : Int)
  by_cases hv : v < 0
  · simp only [if_pos hv]; omega
  · simp only [if_neg hv]; omega
theorem adjust_gen (lo hi : Option Int) (n : Nat) : Builtin.Slice.sliceAdjust lo hi 1 (n : Int) = (((sIx n 0 lo : Nat) : Int), ((sIx n n hi : Nat) : Int)) := by
  have h1 : ¬ ((1 : Int) < 0) := by omega
  unfold Builtin.Slice.sliceAdjust
  simp only [h1, if_false]
  refine Prod.ext ?_ ?_
  · cases lo with
    | none => rfl
    | some v => exact clip_eq v n 0
  · cases hi with
    | none => rfl
    | some v => exact clip_eq v n n
theorem places_gen (i j : Nat) : Builtin.Slice.slicePlaces (i : Int) (j : Int) 1 = j - i := by
  unfold Builtin.Slice.slicePlaces
  have h1 : (1 : Int) > 0 := by omega
  simp only [h1, if_true, Int.ediv_one]
  split <;> omega
theorem slicePart_ {v : Value} {o : Option Int} {Q : Option Int → Shared → Prop} (p : IsPart v o) (h : Q o s) : wpAny (model prog w) A (Builtin.Slice.slicePartIndex v) Q E s := by
  cases p with
  | none => exact slicePart_none h
  | int i t => exact slicePart_int h
theorem sliceApplied_gen {sl : Addr} {vl vu : Value} {lo hi : Option Int} {n : Nat} {Q : Int × Int × Nat → Shared → Prop} (hs : s.heap.IsSliceOf sl vl vu .none) (pl : IsPart vl lo) (pu : IsPart vu hi)
    (h : Q (((sIx n 0 lo : Nat) : Int), 1, sIx n n hi - sIx n 0 lo) s) : wpAny (model prog w) A (Builtin.Slice.sliceApplied (.ref sl) (pure (n : Int))) Q E s := by
  obtain ⟨os, hos, hcs, hds⟩ := id hs
  unfold Builtin.Slice.sliceApplied Builtin.Slice.sliceFields
  refine wpAny_bind (wpAny_bind (wpAny_field hos hds (x := vl) rfl (wpAny_bind (wpAny_field hos hds (x := vu) rfl (wpAny_bind (wpAny_field hos hds (x := .none) rfl (wpAny_pure ?_)))))))
  refine wpAny_bind (slicePart_none ?_)
  show wpAny _ _ (if ((1 : Int) == 0) = true then _ else _) _ _ s
  rw [if_neg (by decide)]
  refine wpAny_bind (slicePart_ pl (wpAny_bind (slicePart_ pu (wpAny_bind (wpAny_pure ?_)))))
  show wpAny _ _ (match Builtin.Slice.sliceAdjust lo hi 1 (n : Int) with | (lo, hi) => pure (lo, (1 : Int), Builtin.Slice.slicePlaces lo hi 1)) _ _ s
  rw [adjust_gen lo hi n]
  show wpAny _ _ (pure (((sIx n 0 lo : Nat) : Int), (1 : Int), Builtin.Slice.slicePlaces ((sIx n 0 lo : Nat) : Int) ((sIx n n hi : Nat) : Int) 1)) _ _ s
  rw [places_gen]
  exact wpAny_pure h
theorem pick_gen (xs : Array Value) (i k : Nat) : ((List.range k).filterMap fun (m : Nat) => xs[((i : Int) + (m : Int) * 1).toNat]?).toArray = ((xs.toList.drop i).take k).toArray := by
  have e : (fun (m : Nat) => xs[((i : Int) + (m : Int) * 1).toNat]?) = fun m => xs[i + m]? := by
    funext m
    have : ((i : Int) + (m : Int) * 1).toNat = i + m := by omega
    rw [this]
  rw [e]
  have := pick_run xs i k
  rw [List.filterMap_map] at this
  have e2 : ((fun x => xs[x]?) ∘ fun x => i + x) = fun m => xs[i + m]? := rfl
  rw [e2] at this
  rw [this]

theorem getItem_tuple_cut {t sl : Addr} {items : Array Value} {vl vu : Value} {lo hi : Option Int} {Q : Value → Shared → Prop} (ht : IsTup s.heap t items) (hs : s.heap.IsSliceOf sl vl vu .none) (pl : IsPart vl lo) (pu : IsPart vu hi)
    (hw : ¬ (sIx items.size 0 lo = 0 ∧ sIx items.size items.size hi = items.size))
    (h : Q (.ref s.heap.objs.size) { s with heap := s.heap.push { cls := .type "tuple", data := .seq ((items.toList.drop (sIx items.size 0 lo)).take (sIx items.size items.size hi - sIx items.size 0 lo)).toArray } })
    (hsz : items.size ≤ sizeLine) : wpAny (model prog w) A (getItem (.ref t) (.ref sl)) Q E s := by
  have htake : sizeOk (.seq ((items.toList.drop (sIx items.size 0 lo)).take (sIx items.size items.size hi - sIx items.size 0 lo)).toArray) := by
    show ((items.toList.drop (sIx items.size 0 lo)).take (sIx items.size items.size hi - sIx items.size 0 lo)).toArray.size ≤ sizeLine
    rw [List.size_toArray, List.length_take, List.length_drop, Array.length_toList]
    omega
  have hj : sIx items.size items.size hi ≤ items.size := sIx_le _ _ (Nat.le_refl _) hi
  obtain ⟨os, hos, hcs, hds⟩ := id hs
  have hTs : s.TypeIs (.ref sl) "slice" := ⟨os, hos, hcs⟩
  unfold getItem
  try with_reducible refine wpAny_holding ?_
  first | refine wpAny_bind (wpAny_pure ?_) | skip
  refine wpAny_bind (wpAny_sequenceKey ht.typeIs (by decide) ?_)
  refine wpAny_bind (wpAny_callSpecial?_slot (name := Str.ofString "__getitem__") ht.typeIs PyProof.Rows.slot_tuple_getitem
    (wpAny_call_entry PyProof.Rows.slot_tuple_getitem ht.typeIs entry_tuple_getitem ?_ (args_tuple_getitem _ _)))
  show wpAny _ _ (Builtin.Tuple.tupleItemsOf (.ref t) >>= _) _ _ s
  refine wpAny_bind (tupleItemsOf_ ht ?_)
  refine wpAny_bind (wpAny_typeOf hTs ?_)
  rw [if_pos (by decide)]
  refine wpAny_bind (sliceApplied_gen hs pl pu ?_)
  have hno : ¬ ((((sIx items.size 0 lo : Nat) : Int) == 0 && (1 : Int) == 1 && (sIx items.size items.size hi - sIx items.size 0 lo) == items.size) = true) := by
    intro q
    rw [Bool.and_eq_true, Bool.and_eq_true] at q
    have q1 : ((sIx items.size 0 lo : Nat) : Int) = 0 := eq_of_beq q.1.1
    have q2 : sIx items.size items.size hi - sIx items.size 0 lo = items.size := eq_of_beq q.2
    exact hw ⟨by omega, by omega⟩
  show wpAny _ _ (if (((sIx items.size 0 lo : Nat) : Int) == 0 && (1 : Int) == 1 && (sIx items.size items.size hi - sIx items.size 0 lo) == items.size) = true then _ else _) _ _ s
  rw [if_neg hno, pick_gen]
  first
    | exact wpAny_bind (m := Builtin.Tuple.tupleExact _) (wpAny_newObj_type (wpAny_pure ⟨_, rfl, wpAny_pure h⟩) htake)
    | exact wpAny_bind (m := Builtin.Tuple.tupleExact _) (wpAny_newObj_type (wpAny_bind (wpAny_pure (wpAny_pure ⟨_, rfl, wpAny_pure h⟩))) htake)
    | exact wpAny_bind (wpAny_bind (m := Builtin.Tuple.tupleExact _) (wpAny_newObj_type (wpAny_pure (wpAny_pure ⟨_, rfl, wpAny_pure h⟩)) htake))
    | exact wpAny_bind (wpAny_bind (m := Builtin.Tuple.tupleExact _) (wpAny_newObj_type (wpAny_pure ⟨_, rfl, wpAny_pure h⟩) htake))
end
end HT

namespace L2
open PySem PySem.Spec PyProof.Rows

/-! ### the parts of a slice -/
abbrev TO := St → Hp → (Option Int → Hp → Prop) → Prop
/-- a slice's part (left out, or an int) -/
def PO (X : Cx) (e : Option Expr) (t : TO) : Prop :=
  ∀ (pins : List (Addr × Obj)) (s : Shared) (σ : St) (H : Hp) (Q : Option Int → Hp → Prop), Inv X pins σ H s → t σ H Q →
    wpAny (model X.prog X.w) X.A (evalPart e X.env) (fun u s' => ∃ o H', Inv X pins σ H' s' ∧ IsPart u o ∧ Q o H') X.xe s
def tNoPart : TO := fun _ H Q => Q none H
def tPart (t : TE) : TO := fun σ H Q => t σ H fun x H1 => ∃ i, x = .int i ∧ Q (some i) H1

theorem intsAre_of {ns : List Int} : ∀ {us : List Value}, Vals (ns.map V.int) us → IntsAre us ns := by
  induction ns with
  | nil => intro us r; rw [List.map_nil] at r; cases r; exact .nil
  | cons n ns ih =>
    intro us r
    rw [List.map_cons] at r
    cases r with
    | cons r1 r2 =>
      obtain ⟨t, e⟩ := r1
      subst e
      exact .cons n t (ih r2)

section
variable {X : Cx} {e : Expr} {te : TE} {lo hi : Option Expr} {tl th : TO} {pos p2 : Pos}

theorem po_none : PO X none tNoPart := by
  intro pins s σ H Q I h
  rw [evalPart_none]
  exact wpAny_pure ⟨none, H, I, .none, h⟩
theorem po_some (h : PE X e te) : PO X (some e) (tPart te) := by
  intro pins s σ H Q I hw
  rw [evalPart_some]
  refine thn (h pins s σ H _ I hw) fun u s1 ⟨x, H1, I1, r1, q1⟩ => ?_
  obtain ⟨i, rfl, q⟩ := q1
  obtain ⟨t, rfl⟩ := r1
  exact ⟨some i, H1, I1, .int i t, q⟩

/-- what a slice of a value is, by values: the slice object stands at sl -/
def SlR (X : Cx) (r : V → Option Int → Option Int → Hp → VK → Prop) : Prop :=
  ∀ (pins : List (Addr × Obj)) (s : Shared) (σ : St) (H : Hp) (x : V) (v vl vu : Value) (lo hi : Option Int) (sl : Addr) (Q : VK), Inv X pins σ H s → RelV x v → s.heap.IsSliceOf sl vl vu .none → IsPart vl lo → IsPart vu hi → r x lo hi H Q →
    ∃ T id, typeLookup (.type T) "__getitem__" = pure (some (.builtin id)) ∧ s.TypeIs v T ∧ wpAny (model X.prog X.w) X.A (getItem v (.ref sl)) (EP X pins σ Q) X.xe s
def tSl (r : V → Option Int → Option Int → Hp → VK → Prop) (te : TE) (tl th : TO) : TE := fun σ H Q => te σ H fun x H1 => tl σ H1 fun l H2 => th σ H2 fun u H3 => r x l u H3 Q
/-- a[lo:hi], any a -/
theorem pe_slice {r : V → Option Int → Option Int → Hp → VK → Prop} (hr : SlR X r) (he : PE X e te) (hl : PO X lo tl) (hu : PO X hi th) : PE X (.Subscript e (.Slice lo hi none p2) pos) (tSl r te tl th) := by
  intro pins s σ H Q I h
  refine Subscript_ (thn (he pins s σ H _ I h) fun v s1 ⟨x, H1, I1, r1, q1⟩ => ?_)
  refine wpAny_Slice (thn (hl pins s1 σ H1 _ I1 q1) fun vl s2 ⟨l, H2, I2, pl, q2⟩ => thn (hu pins s2 σ H2 _ I2 q2) fun vu s3 ⟨u, H3, I3, pu, q3⟩ => ?_)
  rw [evalPart_none]
  refine wpAny_pure ?_
  have I4 : Inv X pins σ H3 { s3 with heap := s3.heap.push { cls := .type "slice", data := .fields #[vl, vu, .none] } } := I3.kept (t' := s3.toks) fun b ob q => Heap.get?_push_of_some _ q
  obtain ⟨T, id, hT, ht, hg⟩ := hr pins { s3 with heap := s3.heap.push { cls := .type "slice", data := .fields #[vl, vu, .none] } } σ H3 x v vl vu l u s3.heap.objs.size Q I4 r1 (Heap.IsSliceOf.new ..) pl pu q3
  show wpAny (model X.prog X.w) X.A (subscriptTail e (.Slice lo hi none p2) v (.ref s3.heap.objs.size)) (EP X pins σ Q) X.xe { s3 with heap := s3.heap.push { cls := .type "slice", data := .fields #[vl, vu, .none] } }
  exact tail_any (ops := [.ref s3.heap.objs.size, v]) ht hT hg (by with_unfolding_all rfl)

/-- the items of xs[lo:hi] -/
def cutV (xs : List V) (lo hi : Option Int) : List V := (xs.drop (HT.sIx xs.length 0 lo)).take (HT.sIx xs.length xs.length hi - HT.sIx xs.length 0 lo)
theorem cutV_length (xs : List V) (lo hi : Option Int) : (cutV xs lo hi).length ≤ xs.length := by
  unfold cutV
  rw [List.length_take, List.length_drop]
  omega
/-- t[lo:hi], not the whole of it (the whole would be t itself) -/
def rSlT (K : PySem.W.Frag) : V → Option Int → Option Int → Hp → VK → Prop := fun x lo hi H Q => ∃ a xs, x = .ref a ∧ SqT K H a xs ∧
  ¬ (HT.sIx xs.length 0 lo = 0 ∧ HT.sIx xs.length xs.length hi = xs.length) ∧ ∀ p, H p = none → Q (.ref p) (upd H p (.tup (cutV xs lo hi)))
theorem sl_tup : SlR X (rSlT X.K) := by
  intro pins s σ H x v vl vu lo hi sl Q I rx hs pl pu h
  obtain ⟨a, xs, rfl, hx, hw, q⟩ := h
  cases rx
  obtain ⟨its, r, ht, hz⟩ := I.tuple hx
  have hlen : its.toArray.size = xs.length := by rw [List.size_toArray]; exact r.length.symm
  refine ⟨"tuple", _, PyProof.Rows.slot_tuple_getitem.lookup, ht.typeIs, ?_⟩
  refine HT.getItem_tuple_cut ht hs pl pu (by rw [hlen]; exact hw) ?_ (by rw [hlen]; exact hz)
  rw [hlen]
  refine ⟨.ref s.heap.objs.size, _, I.laid (t' := s.toks) (o := .tup (cutV xs lo hi)) (fun b ob q => Heap.get?_push_of_some _ q) (Nat.le_refl _) ?_, rfl, q _ (I.hok.fresh (Nat.le_refl _))⟩
  exact ⟨Nat.le_trans (cutV_length xs lo hi) hz, _, (r.drop (HT.sIx xs.length 0 lo)).take (HT.sIx xs.length xs.length hi - HT.sIx xs.length 0 lo), IsTup.new _ _⟩

/-! ### t < u, t + u -/
end
end L2

namespace L2
open PySem PySem.Spec PyProof.Rows

/-! ### places -/
/-- the place that an index of any sign means -/
def ixN (n : Nat) (i : Int) : Option Nat := if 0 ≤ i then (if i < n then some i.toNat else none) else if -(n : Int) ≤ i then some (i + n).toNat else none
def atI {α : Type} (xs : List α) (i : Int) : Option α := (ixN xs.length i).bind fun j => xs[j]?
theorem ixN_seq {n : Nat} {i : Int} {j : Nat} (h : ixN n i = some j) : seqIndex? i n = some j ∧ j < n ∧ -(n : Int) ≤ i ∧ i < n := by
  unfold ixN at h
  by_cases h0 : 0 ≤ i
  · rw [if_pos h0] at h
    by_cases h1 : i < n
    · rw [if_pos h1] at h
      have e : i.toNat = j := Option.some.inj h
      exact ⟨by rw [seqIndex_of h0 h1, e], by omega, by omega, h1⟩
    · rw [if_neg h1] at h; cases h
  · rw [if_neg h0] at h
    by_cases h1 : -(n : Int) ≤ i
    · rw [if_pos h1] at h
      have e : (i + n).toNat = j := Option.some.inj h
      exact ⟨by rw [seqIndex_neg (by omega) h1, e], by omega, h1, by omega⟩
    · rw [if_neg h1] at h; cases h
theorem atI_get {α : Type} {xs : List α} {i : Int} {v : α} (h : atI xs i = some v) : ∃ j, seqIndex? i xs.length = some j ∧ xs[j]? = some v ∧ j < xs.length ∧ -(xs.length : Int) ≤ i ∧ i < xs.length := by
  unfold atI at h
  cases e : ixN xs.length i with
  | none => rw [e] at h; cases h
  | some j =>
    rw [e] at h
    obtain ⟨h1, h2, h3, h4⟩ := ixN_seq e
    exact ⟨j, h1, h, h2, h3, h4⟩
theorem atI_nat {α : Type} {xs : List α} {j : Nat} {v : α} (h : xs[j]? = some v) : atI xs (j : Int) = some v := by
  have hj : j < xs.length := (List.getElem?_eq_some_iff.mp h).1
  have e : ixN xs.length (j : Int) = some j := by
    unfold ixN
    rw [if_pos (by omega), if_pos (by omega)]; simp
  unfold atI; rw [e]; exact h
/-! ### what may be subscripted -/
/-- what stands as an index of a plain subscript -/
def PlainIx (b : Expr) : Prop := ∀ o i, subscripted b false o i = operate [o, i] (getItem o i)
/-- a subscript by values -/
def IxR (X : Cx) (r : R2) : Prop :=
  ∀ (value slice : Expr) (pins : List (Addr × Obj)) (s : Shared) (σ : St) (H : Hp) (x y : V) (v u : Value) (Q : VK), Inv X pins σ H s → RelV x v → RelV y u → r x y H Q →
    subscripted slice false v u = operate [v, u] (getItem v u) → wpAny (model X.prog X.w) X.A (subscriptTail value slice v u) (EP X pins σ Q) X.xe s
/-- a call of a builtin's method by values: the receiver, the arguments -/
def MtR (X : Cx) (id : String) (r : V → List V → Hp → VK → Prop) : Prop :=
  ∀ (pins : List (Addr × Obj)) (s : Shared) (σ : St) (H : Hp) (x : V) (xs : List V) (v : Value) (us : List Value) (Q : VK), Inv X pins σ H s → RelV x v → Vals xs us → r x xs H Q →
    wpAny (model X.prog X.w) X.A (call (.builtin id) (v :: us)) (EP X pins σ Q) X.xe s
section
variable {X : Cx} {a b : Expr} {ta tb : TE} {pos : Pos}
theorem IxR.or {r r' : R2} (h : IxR X r) (h' : IxR X r') : IxR X (fun x y H Q => r x y H Q ∨ r' x y H Q) := by
  intro value slice pins s σ H x y v u Q I rx ry q hs
  rcases q with q | q
  · exact h value slice pins s σ H x y v u Q I rx ry q hs
  · exact h' value slice pins s σ H x y v u Q I rx ry q hs
/-- a[b] -/
theorem pe_ix {r : R2} (hr : IxR X r) (ha : PE X a ta) (hb : PE X b tb) (hs : PlainIx b) : PE X (.Subscript a b pos) (tOp r ta tb) := by
  intro pins s σ H Q I h
  exact Subscript_ (binT ha hb I h fun v u s2 x y H2 I2 rx ry q => hr a b pins s2 σ H2 x y v u Q I2 rx ry q (hs _ _))

def rIxL (K : PySem.W.Frag) : R2 := fun x y H Q => ∃ p xs i v, x = .ref p ∧ y = .int i ∧ SqL K H p xs ∧ atI xs i = some v ∧ Q v H
def rIxT (K : PySem.W.Frag) : R2 := fun x y H Q => ∃ p xs i v, x = .ref p ∧ y = .int i ∧ SqT K H p xs ∧ atI xs i = some v ∧ Q v H
def rIxS : R2 := fun x y H Q => ∃ z i c, x = .str z ∧ y = .int i ∧ z.length ≤ sizeLine ∧ atI z.cps.toList i = some c ∧ Q (.str ⟨#[c]⟩) H
theorem ix_list : IxR X (rIxL X.K) := by
  intro value slice pins s σ H x y v u Q I rx ry h hs
  obtain ⟨p, xs, i, z, rfl, rfl, hq, he, q⟩ := h
  cases rx
  obtain ⟨t, rfl⟩ := ry
  obtain ⟨its, r, pl, hz⟩ := I.list hq
  obtain ⟨j, h1, h2, h3, h4, h5⟩ := atI_get he
  obtain ⟨w, ew, rw'⟩ := r.get h2
  have hl := r.length
  have hn := line63
  have fin : EP X pins σ Q w s := ⟨z, H, I, rw', q⟩
  by_cases h0 : 0 ≤ i
  · have hj : i.toNat = j := by
      rw [seqIndex_of h0 h5] at h1
      exact Option.some.inj h1
    exact item_listR pl.isList h0 (by omega) (by rw [hj]; simpa using ew) fin hs
  · have hj : (i + (its.toArray.size : Int)).toNat = j := by
      rw [seqIndex_neg (by omega) h4] at h1
      rw [List.size_toArray, ← hl]
      exact Option.some.inj h1
    exact subscriptTail_builtinR (x := w) pl.isList.typeIs slot_list_getitem.lookup
      (wpAny_getItem_list_neg (Q := fun r s' => r = w ∧ EP X pins σ Q r s') pl.isList (by omega) (by rw [List.size_toArray] <;> omega) (by omega) (by rw [hj]; simpa using ew) ⟨rfl, fin⟩) hs
theorem ix_tup : IxR X (rIxT X.K) := by
  intro value slice pins s σ H x y v u Q I rx ry h hs
  obtain ⟨p, xs, i, z, rfl, rfl, hq, he, q⟩ := h
  cases rx
  obtain ⟨t, rfl⟩ := ry
  obtain ⟨its, r, pl, hz⟩ := I.tuple hq
  obtain ⟨j, h1, h2, h3, h4, h5⟩ := atI_get he
  obtain ⟨w, ew, rw'⟩ := r.get h2
  have hl := r.length
  have hn := line63
  have fin : EP X pins σ Q w s := ⟨z, H, I, rw', q⟩
  exact subscriptTail_builtinR (x := w) pl.typeIs slot_tuple_getitem.lookup
    (getItem_tuple (j := j) (Q := fun r s' => r = w ∧ EP X pins σ Q r s') pl (by omega) (by omega) (by rw [List.size_toArray, ← hl]; exact h1) (by simpa using ew) ⟨rfl, fin⟩) hs
theorem ix_str : IxR X rIxS := by
  intro value slice pins s σ H x y v u Q I rx ry h hs
  obtain ⟨z, i, c, rfl, rfl, hz, he, q⟩ := h
  obtain ⟨t, rfl⟩ := rx
  obtain ⟨t', rfl⟩ := ry
  obtain ⟨j, h1, h2, h3, h4, h5⟩ := atI_get he
  have hl : z.cps.toList.length = z.length := by simp [Str.length]
  rw [hl] at h1 h4 h5
  have hn := line63
  exact tail_any (typeIs_str s z t) slot_str_getitem.lookup (getItem_str (c := c) (by
    have e1 : decide (i < -(2 ^ 63 : Int)) = false := decide_eq_false (by omega)
    have e2 : decide (i ≥ 2 ^ 63) = false := decide_eq_false (by omega)
    rw [e1, e2, Bool.or_false]) (by rw [h1]; simpa using h2) ⟨.str ⟨#[c]⟩, H, I.tok _, ⟨_, rfl⟩, q⟩) hs
/-- list, tuple or str -/
def rIx (K : PySem.W.Frag) : R2 := fun x y H Q => rIxL K x y H Q ∨ rIxT K x y H Q ∨ rIxS x y H Q
theorem ix_seq : IxR X (rIx X.K) := ix_list.or (ix_tup.or ix_str)

/-! ### xs[i] = v, any sign -/
/-! ### slices -/
theorem slice_bounds (lo hi : Option Int) (n : Nat) : (sliceBounds lo hi none n).1 = ((HT.sIx n 0 lo : Nat) : Int) ∧ (sliceBounds lo hi none n).2.1 = ((HT.sIx n n hi : Nat) : Int) ∧ (sliceBounds lo hi none n).2.2 = 1 := by
  refine ⟨?_, ?_, rfl⟩
  · cases lo with
    | none => simp [sliceBounds, HT.sIx]
    | some i =>
      simp only [sliceBounds, HT.sIx, Option.getD_none, show (1 : Int) > 0 by decide, if_true]
      by_cases h : i < 0
      · simp only [h, if_true] <;> omega
      · simp only [h, if_false] <;> omega
  · cases hi with
    | none => simp [sliceBounds, HT.sIx]
    | some i =>
      simp only [sliceBounds, HT.sIx, Option.getD_none, show (1 : Int) > 0 by decide, if_true]
      by_cases h : i < 0
      · simp only [h, if_true] <;> omega
      · simp only [h, if_false] <;> omega
theorem slicePick_cut (its : List Value) (lo hi : Option Int) : slicePick its.toArray lo hi none = ((its.drop (HT.sIx its.length 0 lo)).take (HT.sIx its.length its.length hi - HT.sIx its.length 0 lo)).toArray := by
  obtain ⟨h1, h2, h3⟩ := slice_bounds lo hi its.toArray.size
  unfold slicePick
  rw [h1, h2, h3]
  simp only [sliceRange_one, pick_run, List.size_toArray] <;> rfl
/-- xs[lo:hi] of a list: a new list -/
def rSlL (K : PySem.W.Frag) : V → Option Int → Option Int → Hp → VK → Prop := fun x lo hi H Q => ∃ a xs, x = .ref a ∧ SqL K H a xs ∧ ∀ p, H p = none → Q (.ref p) (upd H p (.lst (cutV xs lo hi)))
theorem sl_list : SlR X (rSlL X.K) := by
  intro pins s σ H x v vl vu lo hi sl Q I rx hs pl pu h
  obtain ⟨a, xs, rfl, hx, q⟩ := h
  cases rx
  obtain ⟨its, r, ht, hz⟩ := I.list hx
  have hlen := r.length
  refine ⟨"list", _, slot_list_getitem.lookup, ht.isList.typeIs, ?_⟩
  refine wpAny_getItem_list_slice ht.isList hs pl pu .none (by simp) ?_ (by rw [List.size_toArray] <;> omega)
  rw [slicePick_cut, ← hlen]
  refine ⟨.ref s.heap.objs.size, _, I.laid (t' := s.toks) (o := .lst (cutV xs lo hi)) (fun b ob q => Heap.get?_push_of_some _ q) (Nat.le_refl _) ?_, rfl, q _ (I.hok.fresh (Nat.le_refl _))⟩
  exact ⟨Nat.le_trans (cutV_length xs lo hi) hz, _, 0, (r.drop (HT.sIx xs.length 0 lo)).take (HT.sIx xs.length xs.length hi - HT.sIx xs.length 0 lo), Heap.get?_push_size _ rfl⟩

/-! ### in, not in: flat items -/
def flatV : V → Bool
  | .non => true
  | .bl _ => true
  | .int _ => true
  | .str _ => true
  | _ => false
/-- == of flat values -/
def eqV : V → V → Bool
  | .non, .non => true
  | .bl a, .bl b => a == b
  | .bl a, .int b => (if a then 1 else 0) == b
  | .int a, .bl b => a == (if b then 1 else 0)
  | .int a, .int b => a == b
  | .str a, .str b => a == b
  | _, _ => false
theorem eqAt_V {A : Around} {s : Shared} {y x : V} {u v : Value} (ry : RelV y u) (rx : RelV x v) (fy : flatV y = true) (fx : flatV x = true) : SeqAt.EqAt A s u v (eqV y x) := by
  cases y with
  | non =>
    cases ry
    cases x with
    | non => cases rx; exact SeqAt.EqAt.same _
    | bl b => cases rx; exact SeqAt.EqAt.none_bool b
    | int b => obtain ⟨t, rfl⟩ := rx; exact SeqAt.EqAt.none_int b t
    | str b => obtain ⟨t, rfl⟩ := rx; exact SeqAt.EqAt.none_str b t
    | _ => exact absurd (show false = true from fx) Bool.false_ne_true
  | bl a =>
    cases ry
    cases x with
    | non => cases rx; exact SeqAt.EqAt.bool_none a
    | bl b => cases rx; exact SeqAt.EqAt.bool_bool a b
    | int b => obtain ⟨t, rfl⟩ := rx; exact SeqAt.EqAt.bool_int a b t
    | str b => obtain ⟨t, rfl⟩ := rx; exact SeqAt.EqAt.bool_str a b t
    | _ => exact absurd (show false = true from fx) Bool.false_ne_true
  | int a =>
    obtain ⟨t', rfl⟩ := ry
    cases x with
    | non => cases rx; exact SeqAt.EqAt.int_none a t'
    | bl b => cases rx; exact SeqAt.EqAt.int_bool a t' b
    | int b => obtain ⟨t, rfl⟩ := rx; exact SeqAt.EqAt.int_int a t' b t
    | str b => obtain ⟨t, rfl⟩ := rx; exact SeqAt.EqAt.int_str a t' b t
    | _ => exact absurd (show false = true from fx) Bool.false_ne_true
  | str a =>
    obtain ⟨t', rfl⟩ := ry
    cases x with
    | non => cases rx; exact SeqAt.EqAt.str_none a t'
    | bl b => cases rx; exact SeqAt.EqAt.str_bool a t' b
    | int b => obtain ⟨t, rfl⟩ := rx; exact SeqAt.EqAt.str_int a t' b t
    | str b => obtain ⟨t, rfl⟩ := rx; exact SeqAt.EqAt.str_str a t' b t
    | _ => exact absurd (show false = true from fx) Bool.false_ne_true
  | _ => exact absurd (show false = true from fy) Bool.false_ne_true
/-- the items' answers, read off the values (a value's own answer does not lean on its token) -/
def eqU (x : V) (u : Value) : Bool := match u with
  | .none => eqV .non x
  | .bool b => eqV (.bl b) x
  | .int i _ => eqV (.int i) x
  | .str z _ => eqV (.str z) x
  | _ => false
theorem eqU_of {x y : V} {u : Value} (r : RelV y u) (f : flatV y = true) : eqU x u = eqV y x := by
  cases y with
  | non => cases r; rfl
  | bl b => cases r; rfl
  | int i => obtain ⟨t, rfl⟩ := r; rfl
  | str z => obtain ⟨t, rfl⟩ := r; rfl
  | _ => exact absurd (show false = true from f) Bool.false_ne_true
theorem any_eqU {x : V} : ∀ {xs : List V} {us : List Value}, Vals xs us → xs.all flatV = true → us.any (eqU x) = xs.any fun y => eqV y x
  | _, _, .nil, _ => rfl
  | y :: xs, u :: us, .cons r t, f => by
    rw [List.all_cons, Bool.and_eq_true] at f
    rw [List.any_cons, List.any_cons, eqU_of r f.1, any_eqU t f.2]
theorem mem_eqAt {A : Around} {s : Shared} {x : V} {v : Value} (rx : RelV x v) (fx : flatV x = true) : ∀ {xs : List V} {us : List Value}, Vals xs us → xs.all flatV = true → ∀ u ∈ us, SeqAt.EqAt A s u v (eqU x u)
  | _, _, .nil, _ => fun u hu => by cases hu
  | y :: xs, u :: us, .cons r t, f => fun u' hu => by
    rw [List.all_cons, Bool.and_eq_true] at f
    rcases List.mem_cons.mp hu with rfl | hu
    · rw [eqU_of r f.1]; exact eqAt_V r rx f.1 fx
    · exact mem_eqAt rx fx t f.2 u' hu
def inV (x : V) (xs : List V) : Bool := xs.any fun y => eqV y x
/-- x in a list or tuple of flat items -/
def rIn (K : PySem.W.Frag) (neg : Bool) : R2 := fun x y H Q => ∃ p xs, y = .ref p ∧ (SqL K H p xs ∨ SqT K H p xs) ∧ flatV x = true ∧ xs.all flatV = true ∧ Q (.bl (if neg then !inV x xs else inV x xs)) H
theorem op_notIn_seq : OpR X (compareOp .NotIn) (rIn X.K true) := by
  intro pins s σ H x y v u Q I rx ry h
  obtain ⟨p, xs, rfl, hq, fx, fs, q⟩ := h
  cases ry
  rcases hq with hq | hq
  · obtain ⟨its, r, pl, hz⟩ := I.list hq
    refine SeqAt.notIn_listAt (eqU x) pl.isList (fun w hw => mem_eqAt rx fx r fs w (by simpa using hw)) ⟨.bl _, H, I, rfl, ?_⟩
    rw [show its.toArray.any (eqU x) = its.any (eqU x) by simp, any_eqU r fs]
    exact q
  · obtain ⟨its, r, pl, hz⟩ := I.tuple hq
    refine SeqAt.notIn_tupleAt (eqU x) pl (fun w hw => mem_eqAt rx fx r fs w (by simpa using hw)) ⟨.bl _, H, I, rfl, ?_⟩
    rw [show its.toArray.any (eqU x) = its.any (eqU x) by simp, any_eqU r fs]
    exact q
/-! ### len, list(x), tuple(x) of any list or tuple that is read -/
theorem call_len_seq : CallR X (.builtin "len") (fun xs H Q => ∃ p ys, xs = [.ref p] ∧ (SqL X.K H p ys ∨ SqT X.K H p ys) ∧ Q (.int ys.length) H) := by
  intro pins s σ H xs us Q I r h
  obtain ⟨p, ys, rfl, hq, q⟩ := h
  obtain ⟨u, rfl, rx⟩ := vals1 r
  cases rx
  have hn := line63
  rcases hq with hq | hq
  · obtain ⟨its, r', pl, hz⟩ := I.list hq
    have hlen := r'.length
    exact Calls.call_len_list pl.isList (by simp only [List.size_toArray] <;> omega) ⟨.int ys.length, H, I.tok _, ⟨s.toks + 1, by rw [List.size_toArray, hlen]⟩, q⟩
  · obtain ⟨its, r', pl, hz⟩ := I.tuple hq
    have hlen := r'.length
    exact len_tuple pl (by simp only [List.size_toArray] <;> omega) ⟨.int ys.length, H, I.tok _, ⟨s.toks + 1, by rw [List.size_toArray, hlen]⟩, q⟩
theorem call_list_of : CallR X (.type "list") (fun xs H Q => ∃ p ys, xs = [.ref p] ∧ (SqL X.K H p ys ∨ SqT X.K H p ys) ∧ ∀ l, H l = none → Q (.ref l) (upd H l (.lst ys))) := by
  intro pins s σ H xs us Q I r h
  obtain ⟨p, ys, rfl, hq, q⟩ := h
  obtain ⟨u, rfl, rx⟩ := vals1 r
  cases rx
  have fin : ∀ (its : List Value), Vals ys its → ys.length ≤ sizeLine → ∀ (h' : Heap) (c' : Nat), (∀ b o', s.heap.get? b = some o' → h'.get? b = some o') →
      h'.get? s.heap.objs.size = some { cls := .type "list", dict := none, data := .seq its.toArray c', slots := #[] } → EP X pins σ Q (.ref s.heap.objs.size) { s with heap := h' } := fun its r' hz h' c' kp e =>
    ⟨.ref s.heap.objs.size, _, I.laid (t' := s.toks) kp (Nat.le_refl _) (show ObjOk X.prog X.w _ h' _ (.lst ys) from ⟨hz, its, c', r', e⟩), rfl, q _ (I.hok.fresh (Nat.le_refl _))⟩
  rcases hq with hq | hq
  · obtain ⟨its, r', pl, hz⟩ := I.list hq
    have hlen := r'.length
    obtain ⟨o, ho, hc, n, hd⟩ := pl.isList
    exact call_list_seq p (.inl rfl) ho hc hd (fun h' c' kp e => fin its r' hz h' c' kp e) (by simp only [List.size_toArray] <;> omega)
  · obtain ⟨its, r', pl, hz⟩ := I.tuple hq
    have hlen := r'.length
    obtain ⟨o, ho, hc, n, hd⟩ := pl
    exact call_list_seq p (.inr rfl) ho hc hd (fun h' c' kp e => fin its r' hz h' c' kp e) (by simp only [List.size_toArray] <;> omega)
theorem call_tuple_of : CallR X (.type "tuple") (fun xs H Q => ∃ p ys, xs = [.ref p] ∧ ((SqL X.K H p ys ∧ ∀ l, H l = none → Q (.ref l) (upd H l (.tup ys))) ∨ (SqT X.K H p ys ∧ Q (.ref p) H))) := by
  intro pins s σ H xs us Q I r h
  obtain ⟨p, ys, rfl, h⟩ := h
  obtain ⟨u, rfl, rx⟩ := vals1 r
  cases rx
  rcases h with ⟨hq, q⟩ | ⟨hq, q⟩
  · obtain ⟨its, r', pl, hz⟩ := I.list hq
    have hlen := r'.length
    refine call_tuple_list pl.isList (fun h' kp => ?_) (by simp only [List.size_toArray] <;> omega)
    have I1 : Inv X pins σ H { s with heap := h' } := I.kept (t' := s.toks) kp
    have I2 : Inv X pins σ (upd H h'.objs.size (.tup ys)) { s with heap := h'.push { cls := .type "tuple", data := .seq its.toArray } } :=
      I1.laid (t' := s.toks) (fun b o e => Heap.get?_push_of_some _ e) (Nat.le_refl _) (show ObjOk X.prog X.w _ _ _ (.tup ys) from ⟨hz, its, r', IsTup.new _ _⟩)
    exact ⟨.ref h'.objs.size, _, I2, rfl, q _ (I1.hok.fresh (Nat.le_refl _))⟩
  · obtain ⟨its, r', pl, hz⟩ := I.tuple hq
    exact call_tuple_same pl ⟨.ref p, H, I, rfl, q⟩

/-! ### the call of a builtin's method: o.m(..) -/
/-- the value is of that builtin type -/
def tyV (K : PySem.W.Frag) (T : String) (x : V) (H : Hp) : Prop := match x with
  | .str _ => T = "str"
  | .int _ => T = "int"
  | .ref p => (T = "list" ∧ ∃ xs, SqL K H p xs) ∨ (T = "tuple" ∧ ∃ o, K.lookup p = some o ∧ o.cls = .type "tuple" ∧ o.dict = none) ∨
      (T = "dict" ∧ ((∃ kvs, H p = some (.dK kvs)) ∨ ∃ kvs, H p = some (.dT kvs))) ∨ (T = "set" ∧ ∃ S n, H p = some (.set S n))
  | _ => False
theorem tyV_is {pins : List (Addr × Obj)} {σ : St} {H : Hp} {s : Shared} {T : String} {x : V} {v : Value} (I : Inv X pins σ H s) (r : RelV x v) (ty : tyV X.K T x H) :
    s.TypeIs v T ∧ ∀ a, v = .ref a → ∃ ob, s.heap.get? a = some ob ∧ ob.dict = none := by
  cases x with
  | str z =>
    obtain ⟨t, rfl⟩ := r
    cases (show T = "str" from ty)
    exact ⟨typeIs_str s z t, fun _ e => nomatch e⟩
  | int i =>
    obtain ⟨t, rfl⟩ := r
    cases (show T = "int" from ty)
    exact ⟨typeIs_int s i t, fun _ e => nomatch e⟩
  | ref p =>
    cases r
    rcases ty with ⟨rfl, xs, hq⟩ | ⟨rfl, o, hk, hc, hd⟩ | ⟨rfl, hk⟩ | ⟨rfl, S, n, hk⟩
    · obtain ⟨its, _, pl, _⟩ := I.list hq
      refine ⟨pl.isList.typeIs, fun a e => ?_⟩
      cases e
      obtain ⟨o, n, e, c, hd, _⟩ := pl
      exact ⟨o, e, hd⟩
    · refine ⟨⟨o, I.kIn p o hk, hc⟩, fun a e => ?_⟩
      cases e
      exact ⟨o, I.kIn _ o hk, hd⟩
    · have z : ∃ o, s.heap.get? p = some o ∧ o.ExactDict := by
        rcases hk with ⟨kvs, hk⟩ | ⟨kvs, hk⟩
        · obtain ⟨_, _, _, _, o, _, _, e, ex, _⟩ := I.hok p _ hk
          exact ⟨o, e, ex⟩
        · obtain ⟨_, _, _, _, o, _, _, e, ex, _⟩ := I.hok p _ hk
          exact ⟨o, e, ex⟩
      obtain ⟨o, e, ex⟩ := z
      refine ⟨⟨o, e, ex.1⟩, fun a e2 => ?_⟩
      cases e2
      exact ⟨o, e, ex.2.1⟩
    · obtain ⟨o, _, _, _, e, ex, _⟩ := I.hok p _ hk
      refine ⟨⟨o, e, ex.1⟩, fun a e2 => ?_⟩
      cases e2
      exact ⟨o, e, ex.2.1⟩
  | _ => exact False.elim ty
def tBM0 (K : PySem.W.Frag) (T : String) (r : V → List V → Hp → VK → Prop) (to : TE) : TE := fun σ H Q => to σ H fun x H1 => tyV K T x H1 ∧ r x [] H1 Q
def tBM (K : PySem.W.Frag) (T : String) (r : V → List V → Hp → VK → Prop) (to : TE) (t : TA) : TE := fun σ H Q => to σ H fun x H1 => tyV K T x H1 ∧ t σ H1 fun xs H2 => r x xs H2 Q
variable {o e : Expr} {es : List Expr} {to : TE} {t : TA} {name : Str} {apos cpos : Pos} {T id : String} {r : V → List V → Hp → VK → Prop}
theorem pe_bm0 (pa : PlainAttrs T) (slot : Slot T name id) (hty : typeOf (.builtin id) = pure (.type "method_descriptor")) (hm : MtR X id r) (ho : PE X o to)
    (hbase : attributeBase o name X.env (eval o X.env) = eval o X.env := by rfl) (hline : (apos.endLine == cpos.line) = true := by rfl) : PE X (.Call (.Attribute o name apos) [] [] cpos) (tBM0 X.K T r to) := by
  intro pins s σ H Q I h
  refine wpAny_Call_method0_late hbase hline (thn (ho pins s σ H _ I h) fun v s1 ⟨x, H1, I1, r1, ty, q1⟩ => ?_)
  obtain ⟨h1, h2⟩ := tyV_is I1 r1 ty
  exact ⟨T, id, pa, slot, hty, h1, h2, Calls.callWith_builtin rfl (PySem.evalArgs_none (hm pins s1 σ H1 x [] v [] Q I1 r1 .nil q1))⟩
theorem pe_bm (pa : PlainAttrs T) (slot : Slot T name id) (hty : typeOf (.builtin id) = pure (.type "method_descriptor")) (hm : MtR X id r) (ho : PE X o to) (ha : PA X (e :: es) t)
    (hbase : attributeBase o name X.env (eval o X.env) = eval o X.env := by rfl)
    (hfew : ((backTo cpos (starEach (e :: es) X.env)).all (fun x => !x.1) && (backToKw cpos (keywordEach [] X.env)).all (fun x => x.1.isSome)
      && decide ((e :: es).length + ([] : List Keyword).length + (if ([] : List Keyword).isEmpty then 0 else 1) < 30)) = true := by rfl)
    (hline : (apos.endLine == cpos.line) = true := by rfl) (hs : starEach (e :: es) X.env = (false, eval e X.env) :: starEach es X.env := by rfl) (hplain : (backTo cpos (starEach es X.env)).any (·.1) = false := by rfl) :
    PE X (.Call (.Attribute o name apos) (e :: es) [] cpos) (tBM X.K T r to t) := by
  intro pins s σ H Q I h
  refine wpAny_Call_method_late hbase hfew hline rfl (thn (ho pins s σ H _ I h) fun v s1 ⟨x, H1, I1, r1, ty, q1⟩ => ?_)
  obtain ⟨h1, h2⟩ := tyV_is I1 r1 ty
  refine ⟨T, id, pa, slot, hty, h1, h2, ?_⟩
  have hA := ha cpos pins s1 σ H1 _ I1 q1
  rw [hs] at hA ⊢
  refine Calls.callWith_builtin (by show (false || (backTo cpos (starEach es X.env)).any (·.1)) = false; rw [hplain] <;> rfl) (Calls.evalArgs_plain ?_)
  exact thn hA fun us s2 ⟨vs, H2, I2, r2, q2⟩ => hm pins s2 σ H2 x vs v us Q I2 r1 r2 q2
/- xs.append(e), list.index on a module's tuple .. are MtR facts of 06m -/
end
end L2

namespace L2
open PySem PySem.Spec PyProof.Rows

def MtM (X : Cx) (id : String) (r : V → List V → Hp → VK → Prop) : Prop :=
  ∀ (pins : List (Addr × Obj)) (s : Shared) (σ : St) (H : Hp) (x : V) (xs : List V) (v : Value) (us : List Value) (Q : VK), Inv X pins σ H s → RelV x v → Vals xs us → r x xs H Q →
    wpAny (model X.prog X.w) X.A (call (.builtin id) (v :: us)) (EP X pins σ Q) X.xe s

/-! ### lists of values -/
theorem Vals.one : ∀ {x : V} {us : List Value}, Vals [x] us → ∃ u, us = [u] ∧ RelV x u
  | _, _, .cons r .nil => ⟨_, rfl, r⟩
theorem Vals.two : ∀ {x y : V} {us : List Value}, Vals [x, y] us → ∃ u v, us = [u, v] ∧ RelV x u ∧ RelV y v
  | _, _, _, .cons r (.cons q .nil) => ⟨_, _, rfl, r, q⟩
theorem Vals.zero : ∀ {us : List Value}, Vals [] us → us = []
  | _, .nil => rfl
theorem Vals.dropLast {xs : List V} {us : List Value} (h : Vals xs us) : Vals xs.dropLast us.dropLast := by
  induction h with
  | nil => exact .nil
  | cons r t ih =>
    cases t with
    | nil => exact .nil
    | cons q t' => exact .cons r ih
theorem erase_last {α : Type} (l : List α) : l.eraseIdx (l.length - 1) = l.dropLast := by
  induction l with
  | nil => rfl
  | cons a r ih =>
    cases r with
    | nil => rfl
    | cons b r =>
      have e : (a :: b :: r).length - 1 = ((b :: r).length - 1) + 1 := by
        have h1 : (a :: b :: r).length = r.length + 2 := rfl
        have h2 : (b :: r).length = r.length + 1 := rfl
        omega
      rw [e, List.eraseIdx_cons_succ, ih]
      all_goals rfl
section
variable {X : Cx} {pins : List (Addr × Obj)} {σ : St} {H : Hp} {s : Shared} {l b : Addr} {xs ys zs : List V}

/-! ### the two steps: a tracked list is rewritten, a new list is laid -/
theorem Inv.lset {its its' : List Value} {n : Nat} {f : Array Value → Array Value} {t' : Nat} (I : Inv X pins σ H s) (hH : H l = some (.lst xs))
    (e : s.heap.get? l = some { cls := .type "list", data := .seq its.toArray n }) (hf : f its.toArray = its'.toArray) (hv : Vals ys its') (hz : ys.length ≤ sizeLine) :
    Inv X pins σ (upd H l (.lst ys)) { s with heap := s.heap.update l (Obj.mapSeq f), toks := t' } := by
  have q := PySem.IsL.update e f
  rw [hf] at q
  refine I.write (x := l) (e := l) (by rw [hH]; exact trivial) (.inl rfl) (fun b' u hb hu => (Heap.get?_update_other s.heap (Obj.mapSeq f) (Ne.symm hb)).trans hu) ⟨_, q⟩ ?_
  exact ⟨hz, its', _, hv, q⟩
theorem Inv.lnew {its : List Value} {t' : Nat} (I : Inv X pins σ H s) (hv : Vals ys its) (hz : ys.length ≤ sizeLine) :
    Inv X pins σ (upd H s.heap.objs.size (.lst ys)) { s with heap := s.heap.push { cls := .type "list", data := .seq its.toArray }, toks := t' } :=
  I.laid (fun _ _ q => Heap.get?_push_of_some _ q) (Nat.le_refl _) ⟨hz, its, 0, hv, Heap.get?_push_size _ rfl⟩
theorem Inv.fresh (I : Inv X pins σ H s) : H s.heap.objs.size = none := I.hok.fresh (Nat.le_refl _)
theorem Inv.lstM (I : Inv X pins σ H s) (hH : H l = some (.lst xs)) : xs.length ≤ sizeLine ∧ ∃ (its : List Value) (n : Nat), Vals xs its ∧ xs.length = its.length ∧ s.heap.get? l = some { cls := .type "list", data := .seq its.toArray n } := by
  obtain ⟨z, its, n, r, e⟩ := I.hok l _ hH
  exact ⟨z, its, n, r, r.length, e⟩

theorem notLongL {n : Nat} (h : n ≤ sizeLine) : Builtin.List.listTooLong n = false := by
  unfold Builtin.List.listTooLong
  exact decide_eq_false (by omega)
end

section
variable {X : Cx}

/-! ### methods -/
def rAppend : V → List V → Hp → VK → Prop := fun x vs H Q => ∃ l xs y, x = .ref l ∧ vs = [y] ∧ H l = some (.lst xs) ∧ xs.length < sizeLine ∧ Q .non (upd H l (.lst (xs ++ [y])))
theorem mt_append : MtM X "list.append" rAppend := by
  intro pins s σ H x vs v us Q I rx rv h
  obtain ⟨l, xs, y, rfl, rfl, hH, hz, q⟩ := h
  cases rx
  obtain ⟨u, rfl, ru⟩ := rv.one
  obtain ⟨z, its, n, r, hl, e⟩ := I.lstM hH
  refine call_meets F.slot_list_append ⟨_, e, rfl⟩ F.entry_list_append (F.args_list_append_2 _ _) (PySem.list_append l its.toArray n u (by rw [List.size_toArray]; omega)) ⟨e, ?_⟩
  refine ⟨.non, _, I.lset (its' := its ++ [u]) hH e (by simp) (r.append (.cons ru .nil)) ?_, rfl, q⟩
  rw [List.length_append, List.length_singleton]
  omega

inductive ExtendR (x : V) (vs : List V) (H : Hp) (Q : VK) : Prop
  | mk (l b : Addr) (xs zs : List V) (e : x = .ref l) (e' : vs = [.ref b]) (h : H l = some (.lst xs)) (h' : H b = some (.lst zs)) (hz : xs.length + zs.length ≤ sizeLine) (q : Q .non (upd H l (.lst (xs ++ zs)))) : ExtendR x vs H Q
def rExtend : V → List V → Hp → VK → Prop := fun x vs H Q => ExtendR x vs H Q
theorem mt_extend : MtM X "list.extend" rExtend := by
  intro pins s σ H x vs v us Q I rx rv h
  obtain ⟨l, b, xs, zs, rfl, rfl, hH, hB, hz, q⟩ := h
  cases rx
  obtain ⟨u, rfl, ru⟩ := rv.one
  cases ru
  obtain ⟨z, its, n, r, hl, e⟩ := I.lstM hH
  obtain ⟨z2, its2, n2, r2, hl2, e2⟩ := I.lstM hB
  have hsz : its.toArray.size + its2.toArray.size ≤ sizeLine := by rw [List.size_toArray, List.size_toArray]; omega
  have hlong : ¬ (!its.toArray.isEmpty && Builtin.List.listTooLong (its.toArray.size + its2.toArray.size)) = true := by
    rw [notLongL hsz, Bool.and_false]
    exact Bool.false_ne_true
  refine call_meets F.slot_list_extend ⟨_, e, rfl⟩ F.entry_list_extend (F.args_list_extend_2 _ _)
    (AutoSeq1.list_extend_list_list_0 l its.toArray n b its2.toArray n2 hlong (by rw [List.size_toArray]; omega) (by omega)) ⟨e, e2, ?_⟩
  refine ⟨.non, _, I.lset (its' := its ++ its2) hH e (by simp) (r.append r2) ?_, rfl, q⟩
  rw [List.length_append]
  omega

inductive PopR (x : V) (vs : List V) (H : Hp) (Q : VK) : Prop
  | mk (l : Addr) (xs : List V) (y : V) (e : x = .ref l) (e' : vs = []) (h : H l = some (.lst xs)) (hy : xs[xs.length - 1]? = some y) (q : Q y (upd H l (.lst xs.dropLast))) : PopR x vs H Q
def rPop : V → List V → Hp → VK → Prop := fun x vs H Q => PopR x vs H Q
theorem mt_pop : MtM X "list.pop" rPop := by
  intro pins s σ H x vs v us Q I rx rv h
  obtain ⟨l, xs, y, rfl, rfl, hH, hy, q⟩ := h
  cases rx
  have hus := rv.zero
  subst hus
  obtain ⟨z, its, n, r, hl, e⟩ := I.lstM hH
  obtain ⟨u, hu, ru⟩ := r.get hy
  have hy' : its.toArray[its.toArray.size - 1]? = some u := by
    show its.toArray[its.length - 1]? = some u
    rw [← Array.getElem?_toList, ← hl]
    exact hu
  refine call_meets F.slot_list_pop ⟨_, e, rfl⟩ F.entry_list_pop (F.args_list_pop_1 _) (MeetsSeq.list_pop_last l its.toArray n u hy' (by rw [List.size_toArray]; omega)) ⟨e, ?_⟩
  refine ⟨y, _, I.lset (its' := its.dropLast) hH e ?_ r.dropLast ?_, ru, q⟩
  · show its.toArray.eraseIdxIfInBounds (its.toArray.size - 1) = its.dropLast.toArray
    rw [List.size_toArray, List.eraseIdxIfInBounds_toArray, erase_last]
  · rw [List.length_dropLast]
    omega

/-! ### list + list, list += list, list * int -/
def rCat : R2 := fun x y H Q => ∃ l b xs zs, x = .ref l ∧ y = .ref b ∧ H l = some (.lst xs) ∧ H b = some (.lst zs) ∧ xs.length + zs.length ≤ sizeLine ∧ ∀ p, H p = none → Q (.ref p) (upd H p (.lst (xs ++ zs)))
theorem op_cat : OpR X (binaryOp .Add) rCat := by
  intro pins s σ H x y v u Q I rx ry h
  obtain ⟨l, b, xs, zs, rfl, rfl, hH, hB, hz, q⟩ := h
  cases rx
  cases ry
  obtain ⟨z, its, n, r, hl, e⟩ := I.lstM hH
  obtain ⟨z2, its2, n2, r2, hl2, e2⟩ := I.lstM hB
  refine PySem.P.add_list e e2 ?_ (by rw [List.size_toArray, List.size_toArray]; omega)
  have ea : its.toArray ++ its2.toArray = (its ++ its2).toArray := by simp
  rw [ea]
  exact ⟨.ref _, _, I.lnew (t' := s.toks) (r.append r2) (by rw [List.length_append]; omega), rfl, q _ I.fresh⟩
/-! ### del xs[i] -/
end

/-! ### xs[a:b] = ys -/
section
variable {prog : Program} {w : World} {A : Around} {E : Value → Shared → Prop} {s : Shared}
set_option maxRecDepth 100000 in
end

section
variable {X : Cx}
end
end L2

namespace Att
open PySem PySem.W PySem.Calls PyProof.Rows

/-! ### the script -/
theorem ints_of_wellAll {P : Params} {h : Heap} : ∀ (ns : List Int) (vs : List Value), WellAll P h vs (ns.map WData.int) → IntsAre vs ns := by
  intro ns
  induction ns with
  | nil =>
    intro vs w
    rw [List.map_nil] at w
    cases w
    exact .nil
  | cons n ns ih =>
    intro vs w
    rw [List.map_cons] at w
    cases w with
    | cons a b =>
      cases a
      exact .cons _ _ (ih _ b)

theorem script_of {l : OpenLaw} {n : Nat} (hn : l.most = some n) {P : Params} {h : Heap} {args : List WData} {vals : List Value}
    (hpre : l.row.toRowW.claim.pre args = true) (hwl : WellAll P h vals args) :
    ∃ a vs ns, vals = [Value.ref a] ∧ args = [WData.list (ns.map WData.int)] ∧ h.get? a = some { cls := .type "list", data := .seq vs.toArray } ∧ IntsAre vs ns ∧ ns.length ≤ n := by
  have hsh : WShape.hasAll [] args [.list .int] = true := (pre_splitW hpre).1
  have hc : l.pre.holds [] { args := args } = true := (pre_splitW hpre).2
  obtain ⟨d, r, rfl, h1, h2⟩ := hasAllW_cons hsh
  obtain rfl := hasAllW_nil h2
  obtain ⟨xs, rfl, h3⟩ := hasW_list h1
  obtain ⟨ns, rfl⟩ := items_int h3
  have hlen : ns.length ≤ n := by
    unfold OpenLaw.pre at hc
    have h4 : (WTm.not (.lt (.lit (.int (n : Int))) (.len (.arg 0)))).holds [] { args := [.list (ns.map .int)] } = true := by
      have h4 := (holds_andW hc).1
      rw [hn] at h4
      exact h4
    have h5 := condW_of h4 (w_not (w_lt w_lit (w_len_list (w_arg rfl))))
    rw [List.length_map] at h5
    refine Nat.le_of_not_lt fun q => ?_
    have q' : (n : Int) < ((ns.length : Nat) : Int) := by omega
    first
      | (rw [decide_eq_true q'] at h5; exact absurd h5 (by decide))
      | (simp at h5; omega)
  cases hwl with
  | cons w1 w2 =>
    cases w2
    cases w1 with
    | list ho hall => exact ⟨_, _, ns, rfl, rfl, ho, ints_of_wellAll ns _ hall, hlen⟩

theorem post_true (l : OpenLaw) (args : List WData) : l.row.toRowW.claim.post args (.bool true) args = true :=
  postW_of (r := l.row.toRowW) (X := (true == true))
    (show WShape.has [] (.bool true) .bool = true by first | rfl | decide | simp [WShape.has, WShape.arms, WShape.armsAll])
    (show (WTm.eq .res (.lit (.bool true))).value [] { args := args, res := some (.bool true), after := args } = some (.bool (true == true)) from w_eq_bool (w_res rfl) w_lit) rfl

/-! ### the attachment: holds_open's last premise (the goal 'hc' behind k_head) from a wpAny of the law's body -/
/-- the same from a codeAny of the CALL (for a layer whose function contracts speak of calls) -/
theorem attach_call {l : OpenLaw} {n : Nat} {q : Program} {loose : List Str} {XP : (Str → Option Value) → Heap → Prop} {YP : World → Heap → Prop} {d : DefRec}
    (hn : l.most = some n) (hdf : d.params.defaults = [])
    (call : ∀ (w : World) (s₀ s₁ : Shared) (mg mb : Str → Option Value) (fa : Addr) (o : Obj) (pm cd doc : Value) (a : Addr) (vs : List Value) (ns : List Int),
      Ground q loose [] XP w s₀ mg mb s₁.heap → YP w s₁.heap →
      s₁.heap.get? fa = some o → o.data = .func (docDef d.name d.params d.body d.scope pm cd doc) → s₁.heap.CodeRec cd d.name → mg d.name = some (.ref fa) →
      s₁.heap.get? a = some { cls := .type "list", data := .seq vs.toArray } → IntsAre vs ns → ns.length ≤ n → s₁.gens = #[] →
      codeAny (model l.prog w) callerA (.call (.ref fa) ⟨[.ref a], []⟩) (fun r s' => r = .ok (.ret (.bool true)) ∧ OldK s₁.heap s'.heap ∧ s'.os = s₁.os ∧ AllBare s'.gens) s₁) :
    WalkO q loose XP YP l.row.toRowW d [] (fun f vs => PySem.call f vs) := by
  intro w s₀ s₁ mg mb G Y fa o pm cd doc dV kV ho hd hcd hD hmg hg args vals as hpre hlay hrd hwl hlo
  obtain rfl : dV = .none := Dflts.none hD hdf
  obtain rfl : kV = .none := Dflts.noKw hD
  obtain ⟨a, vs, ns, rfl, rfl, hobj, hints, hlen⟩ := script_of hn hpre hwl
  refine enter_call (codeAny_mono (call w s₀ s₁ mg mb fa o pm cd doc a vs ns G Y ho (fd_plain hd) hcd hmg hobj hints hlen hg) fun r s' hq => ?_)
  obtain ⟨rfl, h2, h3, h4⟩ := hq
  exact ⟨.inl ⟨.bool true, .bool true, [], rfl, fun _ => rfl, .bool true, post_true l _, fun _ => ⟨List.Pairwise.nil, fun _ hm => (nomatch hm)⟩⟩, h2, h3, h4⟩

/-! ### rules over ANY heap (no ledger) from facts about the written part K: the library's own take a ledger (News) for what they write -/
section
variable {prog : Program} {w : World} {A : Around} {E : Value → Shared → Prop} {s : Shared} {K : Frag}

/-! the whole heap as the ledger: makes every rule that writes through a ledger a rule over any heap -/
end
end Att

namespace L2
open PySem PySem.Spec PyProof.Rows

theorem vals_ints : ∀ {vs : List Value} {ns : List Int}, IntsAre vs ns → Vals (ns.map V.int) vs
  | _, _, .nil => .nil
  | _, _, .cons n t h => .cons ⟨t, rfl⟩ (vals_ints h)

/-- nothing is tracked but the script, known to the object (or it is an object of the module) -/
def Only (H : Hp) : Prop := ∀ b, H b = none ∨ ∃ o xs, H b = some (.frz o (.lst xs))

/-- THE HEAD: the law's promise, at the heap behind the top. F, the promise of the law's def, may use that base is part of the heap (so K.In base, base.Ns mainGlobals mg stand in Mod) -/
theorem law_call {P : Program} {w : World} {K : PySem.W.Frag} {mg mb : Str → Option Value} {CX : CXT} {k : Nat} {fa a : Addr} {fd : FuncData} {x : Str} {sp : Sp} {s₁ : Shared} {vs : List Value} {ns : List Int}
    (KX : K.In s₁.heap) (hns : s₁.heap.Ns mainGlobals mg) (hb : s₁.heap.Ns builtinsNs mb) (hbb : ∀ x : Str, x ≠ "__name__" → mb x = bootBuiltins x) (hlim : s₁.heap.NoLimit) (hg : s₁.gens = #[])
    (ha : s₁.heap.get? a = some { cls := .type "list", data := .seq vs.toArray }) (hi : IntsAre vs ns) (hl : ns.length ≤ sizeLine) (hr : Room k callerA)
    (F : ∀ base : Heap, K.In base → base.Ns mainGlobals mg → FnOk P w K mg base CX k fa fd [x] sp) (hbind : ∀ (s : Shared) (u : Value), BindsTo s fd ⟨[u], []⟩ [(x, u)])
    (hsp : ∀ H : Hp, Only H → SqL K H a (ns.map V.int) → sp [.ref a] H (fun v _ => v = .bl true) fun _ _ _ => False)
    (hCX : ∀ H e s', CX [] H s₁ (fun _ _ _ => False) e s' → False) :
    codeAny (model P w) callerA (.call (.ref fa) ⟨[.ref a], []⟩) (fun r s' => r = .ok (.ret (.bool true)) ∧ OldK s₁.heap s'.heap ∧ s'.os = s₁.os ∧ AllBare s'.gens) s₁ := by
  have rv := vals_ints hi
  have lenV := hi.length
  -- from an abstract heap in which nothing but the script may be tracked
  have core : ∀ H : Hp, Only H → SqL K H a (ns.map V.int) → HOk P w H s₁.heap → (∀ b, H b ≠ none → b = a) → (H a ≠ none → K.lookup a = none) →
      codeAny (model P w) callerA (.call (.ref fa) ⟨[.ref a], []⟩) (fun r s' => r = .ok (.ret (.bool true)) ∧ OldK s₁.heap s'.heap ∧ s'.os = s₁.os ∧ AllBare s'.gens) s₁ := by
    intro H hO hS hok hA hK
    have base_of : ∀ {b : Addr} {o : Obj}, s₁.heap.get? b = some o → H b = none → (hidT s₁.heap H).get? b = some o := fun e n => hidT_get e n
    have noA : ∀ {b : Addr} {o : Obj} {es : Array DictEntry} {ep : Nat}, s₁.heap.get? b = some o → o.data = .dict es ep → H b = none := fun {b o es ep} e d => by
      cases q : H b with
      | none => rfl
      | some u =>
        have e' : b = a := hA b (by rw [q]; simp)
        subst e'
        rw [ha] at e; cases e
        have d' : Data.seq vs.toArray _ = Data.dict es ep := d
        cases d'
    have nsK : ∀ {b : Addr} {m : Str → Option Value}, s₁.heap.Ns b m → (hidT s₁.heap H).Ns b m := fun {b m} ⟨o, es, ep, e, d, r⟩ => ⟨o, es, ep, base_of e (noA e d), d, r⟩
    have hKb : K.In (hidT s₁.heap H) := fun b o e => base_of (KX b o e) (by
      cases q : H b with
      | none => rfl
      | some u =>
        have e' : b = a := hA b (by rw [q]; simp)
        subst e'
        rw [hK (by rw [q]; simp)] at e; cases e)
    have hM : Mod K mg (hidT s₁.heap H) := ⟨hKb, nsK hns, ⟨mb, nsK hb, hbb⟩, let ⟨mc, h1, h2⟩ := hlim; ⟨mc, nsK h1, h2⟩⟩
    have e0 : Env0 P w K mg (hidT s₁.heap H) callerA [] s₁ H := ⟨rfl, hM, fun b o e => of_hidT e, Nat.le_of_eq (hidT_size _ _), trivial, fun b hb => absurd (show b ∈ ([] : List Addr) from hb) (by simp), hok, .of_eq hg⟩
    refine codeAny_mono ((F _ hKb (nsK hns)).run callerA [] s₁ H ⟨[.ref a], []⟩ [.ref a] [.ref a] _ _ hr e0 (hbind s₁ (.ref a)) (.cons rfl .nil) (hsp H hO hS)) fun r s' h => ?_
    cases r with
    | error e => exact (hCX H e s' h).elim
    | ok fl =>
      cases fl with
      | next => exact False.elim h
      | brk => exact False.elim h
      | cont => exact False.elim h
      | ret u =>
        obtain ⟨v, H', os, bare, un, hok', r', q⟩ := h
        have q' : v = .bl true := q
        subst q'
        obtain rfl : u = Value.bool true := r'
        refine ⟨rfl, OldK.of_keep fun b o e => ?_, os, bare⟩
        cases q : H b with
        | none => exact un.keep b o e q (by intro z; exact absurd (show b ∈ ([] : List Addr) from z) (by simp)) (by simp)
        | some u =>
          rcases hO b with z | ⟨ob, xs, z⟩
          · rw [q] at z; cases z
          · have z2 := un.frzs b ob _ z
            obtain ⟨e1, _⟩ := hok b _ z
            obtain ⟨e2, _⟩ := hok' b _ z2
            rw [e] at e1; cases e1
            exact e2
  cases hk : K.lookup a with
  | some o =>
    -- the script is one of the module's own objects
    have e := KX a o hk
    rw [ha] at e
    cases e
    refine core (fun _ => none) (fun _ => .inl rfl) (.inr ⟨_, vs.toArray, _, hk, rfl, rfl, rfl, by rw [List.size_toArray, lenV]; exact hl, by simpa using rv⟩) (fun b u z => by have z' : (none : Option HO) = some u := z; cases z') (fun b z => absurd rfl z) fun z => absurd rfl z
  | none =>
    refine core (fun b => if b = a then some (.frz { cls := .type "list", data := .seq vs.toArray } (.lst (ns.map V.int))) else none) (fun b => ?_) (.inl (.inr ⟨{ cls := .type "list", data := .seq vs.toArray }, if_pos rfl⟩)) (fun b u z => ?_) (fun b z => ?_) fun _ => hk
    · by_cases hb : b = a
      · exact .inr ⟨_, _, if_pos hb⟩
      · exact .inl (if_neg hb)
    · by_cases hb : b = a
      · have z' := (if_pos hb).symm.trans z
        cases z'
        subst hb
        exact ⟨ha, by rw [List.length_map]; exact hl, vs, _, rv, ha⟩
      · have z' := (if_neg hb).symm.trans z
        cases z'
    · by_cases hb : b = a
      · exact hb
      · exact absurd (if_neg hb) z
end L2

namespace L2
open PySem PySem.Spec PyProof.Rows

/-- the goal that k_head leaves (case hc), from the law's promise. F gives the function object fd (K's own) once, then the promise over every base -/
theorem walk_of {l : PySem.W.OpenLaw} {n k : Nat} {q : Program} {loose : List Str} {XP : (Str → Option Value) → Heap → Prop} {YP : World → Heap → Prop} {d : DefRec} {K : Params → PySem.W.Frag} {CX : World → CXT} {sp : World → Sp} {x : Str}
    (hn : l.most = some n) (hn2 : n ≤ sizeLine) (hdf : d.params.defaults = []) (hr : Room k callerA)
    (hY : ∀ (w : World) (h : Heap), YP w h → (K w.params).In h)
    (F : ∀ (w : World) (mg : Str → Option Value) (fa : Addr) (h : Heap), (K w.params).In h → h.Ns mainGlobals mg → mg d.name = some (.ref fa) →
      ∃ fd : FuncData, (∀ (s : Shared) (u : Value), BindsTo s fd ⟨[u], []⟩ [(x, u)]) ∧
        ∀ base : Heap, (K w.params).In base → base.Ns mainGlobals mg → FnOk l.prog w (K w.params) mg base (CX w) k fa fd [x] (sp w))
    (hsp : ∀ (w : World) (H : Hp) (a : Addr) (ns : List Int), ns.length ≤ n → Only H → SqL (K w.params) H a (ns.map V.int) → sp w [.ref a] H (fun v _ => v = .bl true) fun _ _ _ => False)
    (hCX : ∀ (w : World) (H : Hp) (s : Shared) (e : Value) (s' : Shared), CX w [] H s (fun _ _ _ => False) e s' → False) :
    PySem.W.WalkO q loose XP YP l.row.toRowW d [] (fun f vs => PySem.call f vs) := by
  refine Att.attach_call hn hdf fun w s₀ s₁ mg mb fa o pm cd doc a vs ns G Y ho hd hcd hmg hobj hints hlen hg => ?_
  have KX := hY w _ Y
  obtain ⟨fd, hb, hF⟩ := F w mg fa _ KX G.T.g hmg
  exact law_call KX G.T.g G.T.b G.T.builtins G.T.nolimit hg hobj hints (Nat.le_trans hlen hn2) hr hF hb (fun H hO hS => hsp w H a ns hlen hO hS) fun H e s' => hCX w H s₁ e s'
end L2

/- THE LAST THEOREM (shape; LID, My.* are yours):
   My.Adr: a structure of the addresses that your layer names (classes, functions); My.Txt K t: a structure (Prop) of the equations over K;
   My.txt_mk : {K} {implicit addresses ..} (e1 : nsIn K mainGlobals "law" = some (some (.ref f))) (e2 : K.lookup f = some ⟨oc, od, .func (fnOf "law" "law" params body scope dV kV doc pm an cdv ct), sl⟩) (e3 : codeIn K cdv "law" = true) .. : ∃ t, My.Txt K t

set_option maxRecDepth 100000 in
set_option maxHeartbeats 0 in
theorem PySem.Challenge.cw_LID_holds : PySem.Challenge.rw_LID.Holds := by
  w_on; o_law; k_head; (case hw => w_witness2)
  k_fill
  refine L2.walk_of (l := PySem.Challenge.rw_LID) (n := 63) (k := 40) (x := "script") (CX := fun w => ..) (sp := fun _ => My.sp_law) rfl (by decide) rfl ⟨rfl, by decide, by decide⟩ (fun w h Y => PySem.W.kIn_of Y) ?F ?S ?C
  case F =>
    intro w mg fa h KX G hmg
    have T : ∃ t, My.Txt (L2.KOf KX) t := by
      dsimp only [L2.KOf]                          -- K must stand as «<heap const> w.params» for k_is
      refine' My.txt_mk ?e1 ?e2 ?e3 ..
      (case e1 => PySem.W.k_is)                    -- in the order: a name -> its address -> its object -> its parts
      (case e2 => PySem.W.k_is)
      ..
    obtain ⟨t, T⟩ := T
    have e0 := hmg.symm.trans (PySem.W.mg_of KX G T.law)
    cases e0                                       -- fa is the law's own address
    exact ⟨_, fun s u => .of_eq rfl, fun base kb nb => My.law_fn T kb nb⟩     -- if «.of_eq rfl» comes too early: refine' ⟨_, ?b, fun base kb nb => My.law_fn T kb nb⟩; exact fun s u => .of_eq rfl
  case S => exact fun w H a ns hl hO hS => ..
  case C => exact ..
(the tactic k_is has no namespace: write k_is) -/

/-! SHORT WORDS over the layer: a def of the text, its body, what a loop and a test want. -/
namespace L2
open PySem PySem.Spec PyProof.Rows

/-! ### the text by places -/
def defArgs (s : Stmt) : Arguments := match s with
  | .FunctionDef _ a _ _ _ _ _ _ _ _ => a
  | _ => { posonlyargs := [], args := [], vararg := none, kwonlyargs := [], kw_defaults := [], kwarg := none, defaults := [] }
def defBody (s : Stmt) : List Stmt := match s with
  | .FunctionDef _ _ b _ _ _ _ _ _ _ => b
  | _ => []
def defScope (s : Stmt) : Scope := match s with
  | .FunctionDef _ _ _ _ _ _ sc _ _ _ => sc
  | _ => { kind := .function, names := [], isGenerator := false, isCoroutine := false }

/-! ### no exception leaves a def -/
abbrev CX0 : CXT := fun _ _ _ _ _ _ => False
abbrev E0 : XK := fun _ _ _ => False
theorem pass0 {X : Cx} : Passes CX0 X E0 := fun _ _ _ _ _ _ _ h => h.elim

/-! ### a def (or method) of the text as it stands behind the top -/
structure Fun (K : PySem.W.Frag) (x qual : Str) (st : Stmt) (f : Addr) (fd : FuncData) : Prop where
  ex : ∃ (oc : Value) (od : Option Addr) (kV doc pm : Value) (an : Option Addr) (cdv ct : Value) (osl : Array (Option Value)),
    fd = PySem.W.fnOf x qual (defArgs st) (defBody st) (defScope st) .none kV doc pm an cdv ct ∧ K.lookup f = some ⟨oc, od, .func fd, osl⟩ ∧ PySem.W.codeIn K cdv qual = true
  kp : PySem.W.keepIn K (.ref f) = true
section
variable {P : Program} {w : World} {K : PySem.W.Frag} {mg : Str → Option Value} {base : Heap}
/-- THE RULE for a def: its body as a term of rules, and the reading of that term -/
theorem Fun.ok {x qual : Str} {st : Stmt} {f : Addr} {fd : FuncData} {N ps : List Str} {k : Nat} {sp : Sp} (F : Fun K x qual st f fd) (S : FnScope N ps (defScope st)) (len : ∀ vs H Q E, sp vs H Q E → vs.length = ps.length)
    (hbody : ∀ (cdv : Value) (A : Around) (outer : List Env) (s : Shared) (H : Hp) (vs : List V) (Q : VK) (E : XK), Room k (A.deeper (envOfC qual (defScope st) s.heap.objs.size f cdv)) → sp vs H Q E →
      ∃ t, PSs (cxOf CX0 P w K mg base N qual (defScope st) f cdv A outer s H E).nox (defBody st) t ∧ t { nx := fun _ H' => Q .non H', rt := Q } (start N vs) H) : FnOk P w K mg base CX0 (k + 1) f fd ps sp := by
  obtain ⟨oc, od, kV, doc, pm, an, cdv, ct, osl, rfl, lk, hcd⟩ := F.ex
  refine fn_of lk hcd S len fun A outer s H vs Q E hr hsp => ?_
  obtain ⟨t, h, q⟩ := hbody cdv A outer s H vs Q E hr hsp
  exact ⟨t, h.nox, q⟩
/-- how its arguments bind (no defaults): h is «fun _ _ _ _ _ _ us hl => match us, hl with | [_, _], _ => rfl», one _ a parameter -/
theorem Fun.binds {x qual : Str} {st : Stmt} {f : Addr} {fd : FuncData} {ps : List Str} (F : Fun K x qual st f fd)
    (h : ∀ (kV doc pm : Value) (an : Option Addr) (cdv ct : Value) (us : List Value), us.length = ps.length → bindArgs (PySem.W.fnOf x qual (defArgs st) (defBody st) (defScope st) .none kV doc pm an cdv ct) ⟨us, []⟩ = pure (ps.zip us)) : Binds K fd ps [] := by
  obtain ⟨oc, od, kV, doc, pm, an, cdv, ct, osl, rfl, lk, hcd⟩ := F.ex
  exact .all (h kV doc pm an cdv ct)
theorem fun_mk {x qual : Str} {st : Stmt} {f : Addr} {oc : Value} {od an : Option Addr} {osl : Array (Option Value)} {kV doc pm cdv ct : Value} (l : K.lookup f = some ⟨oc, od, .func (PySem.W.fnOf x qual (defArgs st) (defBody st) (defScope st) .none kV doc pm an cdv ct), osl⟩)
    (c : PySem.W.codeIn K cdv qual = true) (k : PySem.W.keepIn K (.ref f) = true) : Fun K x qual st f (PySem.W.fnOf x qual (defArgs st) (defBody st) (defScope st) .none kV doc pm an cdv ct) := ⟨⟨oc, od, kV, doc, pm, an, cdv, ct, osl, rfl, l, c⟩, k⟩
end
/-! ### expressions in short: the name that stands in the i-th slot -/
section
variable {X : Cx}
theorem pv (i : Nat) {x : Str} {pos : Pos} (hN : X.N[i]? = some x := by rfl) (hv : Vis X.env.scope x := by first | exact Or.inl rfl | exact Or.inr (Or.inl rfl) | exact Or.inr (Or.inr rfl)) (hd : (x == ("__debug__" : Str)) = false := by decide)
    (hcd : (x == ("__classdict__" : Str)) = false := by decide) : PE X (.Name x pos) (tVar i) := pe_var hN hv hd hcd
end

/-! ### tests -/
theorem iteF {A B : Prop} (h : B) : if false = true then A else B := by
  rw [if_neg Bool.false_ne_true]
  exact h
theorem iteT {A B : Prop} (h : A) : if true = true then A else B := by
  rw [if_pos rfl]
  exact h
theorem ite2 {c A B : Prop} [Decidable c] (h1 : c → A) (h2 : ¬ c → B) : if c then A else B := by
  by_cases h : c
  · rw [if_pos h]
    exact h1 h
  · rw [if_neg h]
    exact h2 h
theorem iteNS {c A B : Prop} [Decidable c] (hc : c) (h : B) : if (!decide c) = true then A else B := by
  rw [decide_eq_true hc]
  exact iteF h

/-! ### heaps -/
/-- all that was tracked is as it was -/
def Same (H H' : Hp) : Prop := ∀ b o, H b = some o → H' b = some o
theorem Same.refl (H : Hp) : Same H H := fun _ _ h => h
theorem Same.trans {H H1 H2 : Hp} (a : Same H H1) (b : Same H1 H2) : Same H H2 := fun c o h => b c o (a c o h)
theorem Same.seq {K : PySem.W.Frag} {H H' : Hp} {a : Addr} {xs : List V} (e : Same H H') (h : SqL K H a xs) : SqL K H' a xs := by
  rcases h with (h | ⟨o, h⟩) | h
  · exact .inl (.inl (e _ _ h))
  · exact .inl (.inr ⟨o, e _ _ h⟩)
  · exact .inr h

end L2
set_option maxHeartbeats 4000000
namespace TT
open PySem

/-! ### trees and their paths -/
inductive Tr where
  | node (m : Str) (ks : List Tr)
def Tr.mark : Tr → Str
  | .node m _ => m
def Tr.kids : Tr → List Tr
  | .node _ ks => ks
mutual
def Tr.knots : Tr → Nat
  | .node _ ks => 1 + knotsOf ks
def knotsOf : List Tr → Nat
  | [] => 0
  | t :: ts => t.knots + knotsOf ts
end
theorem knots_eq (t : Tr) : t.knots = 1 + knotsOf t.kids := by cases t; rfl
theorem knotsOf_append : ∀ (a b : List Tr), knotsOf (a ++ b) = knotsOf a + knotsOf b
  | [], b => by simp [knotsOf]
  | t :: a, b => by rw [List.cons_append, knotsOf, knotsOf_append a b, knotsOf]; omega
theorem knotsOf_perm {a b : List Tr} (h : a.Perm b) : knotsOf a = knotsOf b := by
  induction h with
  | nil => rfl
  | cons x _ ih => rw [knotsOf, knotsOf, ih]
  | swap x y l => simp only [knotsOf]; omega
  | trans _ _ i1 i2 => exact i1.trans i2
theorem length_le_knots : ∀ ts : List Tr, ts.length ≤ knotsOf ts
  | [] => Nat.le_refl _
  | t :: ts => by
    have := length_le_knots ts
    rw [List.length_cons, knotsOf, knots_eq]; omega
theorem knots_mem {t : Tr} : ∀ {ts : List Tr}, t ∈ ts → t.knots ≤ knotsOf ts
  | a :: ts, h => by
    rcases List.mem_cons.mp h with rfl | h
    · rw [knotsOf]; omega
    · have := knots_mem h; rw [knotsOf]; omega
mutual
/-- the paths in a tree, its top the empty one -/
def Tr.pp : Tr → List (List Int)
  | .node _ ks => [] :: pps 0 ks
/-- the paths in a row, the first tree at place i -/
def pps : Nat → List Tr → List (List Int)
  | _, [] => []
  | i, t :: ts => t.pp.map (fun p => (i : Int) :: p) ++ pps (i + 1) ts
end
theorem pp_eq (t : Tr) : t.pp = [] :: pps 0 t.kids := by cases t; rfl
mutual
theorem Tr.pp_length : ∀ t : Tr, t.pp.length = t.knots
  | .node _ ks => by rw [Tr.pp, Tr.knots, List.length_cons, pps_length 0 ks]; omega
theorem pps_length : ∀ (i : Nat) (ts : List Tr), (pps i ts).length = knotsOf ts
  | _, [] => rfl
  | i, t :: ts => by rw [pps, knotsOf, List.length_append, List.length_map, Tr.pp_length t, pps_length (i + 1) ts]
end
/-- a path and the trees below it: its paths -/
abbrev Job := List Int × List Tr
def Job.all (j : Job) : List (List Int) := (pps 0 j.2).map (j.1 ++ ·)
def subs (p : List Int) : Nat → List Tr → List Job
  | _, [] => []
  | i, t :: ts => (p ++ [(i : Int)], t.kids) :: subs p (i + 1) ts
def allOf (js : List Job) : List (List Int) := js.flatMap Job.all
theorem allOf_nil : allOf [] = [] := rfl
theorem allOf_cons (j : Job) (js : List Job) : allOf (j :: js) = j.all ++ allOf js := by simp [allOf]
theorem allOf_append (a b : List Job) : allOf (a ++ b) = allOf a ++ allOf b := by simp [allOf]
theorem subs_length (p : List Int) : ∀ (i : Nat) (ts : List Tr), (subs p i ts).length = ts.length
  | _, [] => rfl
  | i, t :: ts => by rw [subs, List.length_cons, subs_length p (i + 1) ts, List.length_cons]
theorem pps_split (p : List Int) : ∀ (i : Nat) (ts : List Tr), ((pps i ts).map (p ++ ·)).Perm ((subs p i ts).map (·.1) ++ allOf (subs p i ts))
  | _, [] => .nil
  | i, t :: ts => by
    have ih := pps_split p (i + 1) ts
    rw [pps, subs, List.map_append, List.map_cons, allOf_cons, pp_eq, List.map_cons, List.map_cons, List.map_map, List.cons_append, List.cons_append]
    refine List.Perm.cons _ ?_
    have e : Job.all (p ++ [(i : Int)], t.kids) = (pps 0 t.kids).map ((fun x => p ++ x) ∘ fun q => (i : Int) :: q) := by
      unfold Job.all
      refine List.map_congr_left fun q _ => ?_
      simp
    rw [e]
    refine (List.Perm.append_left _ ih).trans ?_
    rw [← List.append_assoc, ← List.append_assoc]
    exact List.Perm.append_right _ List.perm_append_comm
theorem job_split (j : Job) : j.all.Perm ((subs j.1 0 j.2).map (·.1) ++ allOf (subs j.1 0 j.2)) := pps_split j.1 0 j.2
/-- a turn of the search level by level -/
def deeper (js : List Job) : List Job := js.flatMap fun j => subs j.1 0 j.2
theorem deeper_perm : ∀ js : List Job, (allOf js).Perm ((deeper js).map (·.1) ++ allOf (deeper js))
  | [] => .nil
  | j :: js => by
    have ih := deeper_perm js
    have e : deeper (j :: js) = subs j.1 0 j.2 ++ deeper js := by simp [deeper]
    rw [e, allOf_cons, allOf_append, List.map_append]
    refine (List.Perm.append (job_split j) ih).trans ?_
    rw [List.append_assoc, List.append_assoc]
    refine List.Perm.append_left _ ?_
    rw [← List.append_assoc, ← List.append_assoc]
    exact List.Perm.append_right _ List.perm_append_comm
theorem turn_level {F : List (List Int)} {L : List Job} {C : List (List Int)} (h : (F ++ allOf L).Perm C) : ((F ++ (deeper L).map (·.1)) ++ allOf (deeper L)).Perm C := by
  refine List.Perm.trans ?_ h
  rw [List.append_assoc]
  exact List.Perm.append_left _ (deeper_perm L).symm
/-! ### the order of lists of ints -/
open HT
theorem lex_irr : ∀ a : List Int, HT.lexLt a a = false
  | [] => rfl
  | x :: a => by simp [HT.lexLt, lex_irr a]
theorem lex_tr : ∀ a b c : List Int, HT.lexLt a b = true → HT.lexLt b c = true → HT.lexLt a c = true
  | [], [], _, h, _ => by simp [HT.lexLt] at h
  | [], _ :: _, [], _, h => by simp [HT.lexLt] at h
  | [], _ :: _, _ :: _, _, _ => rfl
  | _ :: _, [], _, h, _ => by simp [HT.lexLt] at h
  | _ :: _, _ :: _, [], _, h => by simp [HT.lexLt] at h
  | x :: a, y :: b, z :: c, h, k => by
    simp only [HT.lexLt] at h k ⊢
    by_cases e1 : x = y
    · subst e1
      rw [if_pos rfl] at h
      by_cases e2 : x = z
      · rw [if_pos e2] at k ⊢; exact lex_tr a b c h k
      · rw [if_neg e2] at k ⊢; exact k
    · rw [if_neg e1] at h
      have h' := of_decide_eq_true h
      by_cases e2 : y = z
      · subst e2
        rw [if_neg e1]; exact h
      · rw [if_neg e2] at k
        have k' := of_decide_eq_true k
        rw [if_neg (by omega)]
        exact decide_eq_true (by omega)
theorem lex_tot : ∀ a b : List Int, HT.lexLt a b = false → HT.lexLt b a = false → a = b
  | [], [], _, _ => rfl
  | [], _ :: _, h, _ => by simp [HT.lexLt] at h
  | _ :: _, [], _, h => by simp [HT.lexLt] at h
  | x :: a, y :: b, h, k => by
    simp only [HT.lexLt] at h k
    by_cases e : x = y
    · subst e
      rw [if_pos rfl] at h k
      rw [lex_tot a b h k]
    · rw [if_neg e] at h
      rw [if_neg (Ne.symm e)] at k
      have := of_decide_eq_false h
      have := of_decide_eq_false k
      omega
theorem lex_neg (a b c : List Int) (h : HT.lexLt a c = true) : HT.lexLt a b = true ∨ HT.lexLt b c = true := by
  cases h1 : HT.lexLt a b with
  | true => exact .inl rfl
  | false =>
    cases h2 : HT.lexLt b a with
    | true => exact .inr (lex_tr _ _ _ h2 h)
    | false => rw [lex_tot a b h1 h2] at h; exact .inr h
/-- sorted, as sorted() leaves it -/
def Rising (l : List (List Int)) : Prop := l.Pairwise fun a b => HT.lexLt b a = false
theorem rising_one : ∀ (a b : List (List Int)), a.Perm b → Rising a → Rising b → a = b
  | [], b, h, _, _ => h.nil_eq
  | x :: a, [], h, _, _ => absurd h.length_eq (by simp)
  | x :: a, y :: b, h, ha, hb => by
    obtain ⟨h1, h2⟩ := List.pairwise_cons.mp ha
    obtain ⟨k1, k2⟩ := List.pairwise_cons.mp hb
    have e : x = y := by
      have mx : x ∈ y :: b := h.mem_iff.mp List.mem_cons_self
      have my : y ∈ x :: a := h.mem_iff.mpr List.mem_cons_self
      rcases List.mem_cons.mp mx with e | mx
      · exact e
      · rcases List.mem_cons.mp my with e | my
        · exact e.symm
        · exact lex_tot _ _ (k1 x mx) (h1 y my)
    subst e
    rw [rising_one a b ((List.perm_cons x).mp h) h2 k2]

/-! ### whether a path leads to a knot -/
def down : List Tr → List Int → Option (List Tr)
  | ts, [] => some ts
  | ts, i :: p => if i < 0 then none else match ts[i.toNat]? with
    | none => none
    | some t => down t.kids p
theorem down_append : ∀ (ts : List Tr) (p q : List Int), down ts (p ++ q) = (down ts p).bind fun u => down u q
  | ts, [], q => rfl
  | ts, i :: p, q => by
    rw [List.cons_append, down, down]
    by_cases h : i < 0
    · rw [if_pos h, if_pos h]; rfl
    · rw [if_neg h, if_neg h]
      cases e : ts[i.toNat]? with
      | none => rfl
      | some t => exact down_append t.kids p q
theorem down_pps : ∀ (n : Nat) (ts : List Tr), knotsOf ts ≤ n → ∀ (pre : List Tr) (p : List Int), p ∈ pps pre.length ts → ∃ u, down (pre ++ ts) p = some u
  | n, [], _, pre, p, h => by simp [pps] at h
  | 0, t :: ts, hn, _, _, _ => by rw [knotsOf, knots_eq] at hn; omega
  | n + 1, t :: ts, hn, pre, p, h => by
    rw [knotsOf, knots_eq] at hn
    rw [pps] at h
    rcases List.mem_append.mp h with h | h
    · obtain ⟨q, hq, rfl⟩ := List.mem_map.mp h
      have e : (pre ++ t :: ts)[((pre.length : Nat) : Int).toNat]? = some t := by simp
      rw [down, if_neg (by omega), e]
      rw [pp_eq] at hq
      rcases List.mem_cons.mp hq with rfl | hq
      · exact ⟨_, rfl⟩
      · exact down_pps n t.kids (by omega) [] q hq
    · have := down_pps n ts (by omega) (pre ++ [t]) p (by simpa using h)
      simpa using this
end TT
set_option linter.all false
namespace TT
open PySem PySem.W PyProof.Rows

/-- a strict weak order on places -/
structure POrd (lt : Nat → Nat → Bool) : Prop where
  irr : ∀ a, lt a a = false
  tr : ∀ a b c, lt a b = true → lt b c = true → lt a c = true
  neg : ∀ a b c, lt a c = true → lt a b = true ∨ lt b c = true
abbrev ple (lt : Nat → Nat → Bool) (a b : Nat) : Prop := lt b a = false
section
variable {lt : Nat → Nat → Bool}
theorem POrd.rfl' (O : POrd lt) (a : Nat) : ple lt a a := O.irr a
theorem POrd.le_tr (O : POrd lt) {a b c : Nat} (h1 : ple lt a b) (h2 : ple lt b c) : ple lt a c := by
  unfold ple at *
  cases h : lt c a with
  | false => rfl
  | true =>
    rcases O.neg c b a h with q | q
    · rw [h2] at q; cases q
    · rw [h1] at q; cases q
theorem POrd.le_of (O : POrd lt) {a b : Nat} (h : lt a b = true) : ple lt a b := by
  unfold ple
  cases q : lt b a with
  | false => rfl
  | true => have := O.tr _ _ _ h q; rw [O.irr] at this; cases this
abbrev pat (p : Array Nat) (k : Nat) : Nat := p.getD k 0
def SortTo (lt : Nat → Nat → Bool) (p : Array Nat) (k : Nat) : Prop := ∀ i j, i ≤ j → j < k → ple lt (pat p i) (pat p j)
def FallTo (lt : Nat → Nat → Bool) (p : Array Nat) (k : Nat) : Prop := ∀ i j, i ≤ j → j < k → ple lt (pat p j) (pat p i)
def Same2 (lt : Nat → Nat → Bool) (a b : Nat) : Prop := ple lt a b ∧ ple lt b a
theorem pat_of {p q : Array Nat} {i j : Nat} (h : p[i]? = q[j]?) : pat p i = pat q j := by
  unfold pat
  rw [Array.getD_eq_getD_getElem?, Array.getD_eq_getD_getElem?, h]
theorem pat_rev {p : Array Nat} {i j : Nat} (hj : j ≤ p.size) (k : Nat) : pat (kas_rev p i j) k = if i ≤ k ∧ k < j then pat p (i + j - 1 - k) else pat p k := by
  have e := getElem?_mirror_all (xs := p) (i := i) hj k
  unfold kas_rev
  by_cases h : i ≤ k ∧ k < j
  · rw [if_pos h] at e ⊢; exact pat_of e
  · rw [if_neg h] at e ⊢; exact pat_of e
theorem pat_bub {p : Array Nat} {s d : Nat} (hs : s < p.size) (hd : d ≤ s) (k : Nat) : pat (bubble p s d) k = if k = s - d then pat p s else if s - d < k ∧ k ≤ s then pat p (k - 1) else pat p k := by
  have e := getElem?_bubble hs d hd k
  by_cases h1 : k = s - d
  · rw [if_pos h1] at e ⊢; exact pat_of e
  · rw [if_neg h1] at e ⊢
    by_cases h2 : s - d < k ∧ k ≤ s
    · rw [if_pos h2] at e ⊢; exact pat_of e
    · rw [if_neg h2] at e ⊢; exact pat_of e
/-- the places of p, whatever their order -/
def Pl (n : Nat) (p : Array Nat) : Prop := p.Perm (List.toArray (List.range n))
theorem Pl.size {n : Nat} {p : Array Nat} (h : Pl n p) : p.size = n := by
  have := Array.Perm.size_eq h
  simpa using this
theorem Pl.below {n : Nat} {p : Array Nat} (h : Pl n p) {k : Nat} (hk : k < n) : pat p k < n := by
  have hs := h.size
  have hm : p[k] ∈ p := Array.getElem_mem (by omega)
  have : p[k] ∈ List.toArray (List.range n) := (Array.Perm.mem_iff h).mp hm
  have e : pat p k = p[k] := by unfold pat; rw [Array.getD_eq_getD_getElem?]; simp [show k < p.size by omega]
  rw [e]
  simpa using this
theorem Pl.rev {n i j : Nat} {p : Array Nat} (h : Pl n p) : Pl n (kas_rev p i j) := (mirror_perm p i j _).trans h
theorem Pl.bub {n i d : Nat} {p : Array Nat} (h : Pl n p) : Pl n (bubble p i d) := (bubble_perm p i d).trans h

/-- what is known of the comparisons at the state s -/
def Cmps (lt : Nat → Nat → Bool) (n : Nat) (cmp : Nat → Nat → (Bool → Shared → Prop) → Shared → Prop) (s : Shared) : Prop :=
  ∀ i j C, i < n → j < n → C (lt i j) s → cmp i j C s
variable {cmp : Nat → Nat → (Bool → Shared → Prop) → Shared → Prop} {s : Shared} {n : Nat}
theorem sort_one (O : POrd lt) {p : Array Nat} {m : Nat} (hs : SortTo lt p m) (hm : 1 ≤ m) (h : lt (pat p m) (pat p (m - 1)) = false) : SortTo lt p (m + 1) := by
  intro i j hij hj
  by_cases e : j = m
  · subst e
    by_cases e2 : i = j
    · subst e2; exact O.rfl' _
    · exact O.le_tr (hs i (j - 1) (by omega) (by omega)) h
  · exact hs i j hij (by omega)
theorem fall_one (O : POrd lt) {p : Array Nat} {m : Nat} (hs : FallTo lt p m) (hm : 1 ≤ m) (h : ple lt (pat p m) (pat p (m - 1))) : FallTo lt p (m + 1) := by
  intro i j hij hj
  by_cases e : j = m
  · subst e
    by_cases e2 : i = j
    · subst e2; exact O.rfl' _
    · exact O.le_tr h (hs i (j - 1) (by omega) (by omega))
  · exact hs i j hij (by omega)
theorem asc_ok (O : POrd lt) (hc : Cmps lt n cmp s) {p : Array Nat} (hp : Pl n p) {Q : Nat → Shared → Prop} : ∀ (f m : Nat), 1 ≤ m → m + f ≤ n → SortTo lt p m →
    (∀ r, m ≤ r → r ≤ m + f → SortTo lt p r → (r = m + f ∨ lt (pat p r) (pat p (r - 1)) = true) → Q r s) → (kas_asc p f m).kasWp cmp Q s
  | 0, m, _, _, hs, k => k m (Nat.le_refl _) (Nat.le_refl _) hs (.inl rfl)
  | f + 1, m, h1, h2, hs, k => by
    refine hc _ _ _ (hp.below (by omega)) (hp.below (by omega)) ?_
    cases e : lt (p.getD m 0) (p.getD (m - 1) 0) with
    | true => exact k m (Nat.le_refl _) (by omega) hs (.inr e)
    | false =>
      show (kas_asc p f (m + 1)).kasWp cmp Q s
      exact asc_ok O hc hp f (m + 1) (by omega) (by omega) (sort_one O hs h1 e) fun r a b c d => k r (by omega) (by omega) c (d.elim (fun z => .inl (by omega)) .inr)
theorem fall_same (O : POrd lt) {p q : Array Nat} {m : Nat} (hs : FallTo lt p m) (h : ∀ k, k < m → Same2 lt (pat q k) (pat p k)) : FallTo lt q m := fun i j hij hj =>
  O.le_tr (h j hj).1 (O.le_tr (hs i j hij hj) (h i (by omega)).2)
/-- the last r + 1 of the first m are alike -/
def Alike (lt : Nat → Nat → Bool) (p : Array Nat) (m r : Nat) : Prop := ∀ k, m ≤ k + 1 + r → k < m → Same2 lt (pat p k) (pat p (m - 1))
theorem rev_alike (O : POrd lt) {p : Array Nat} {m r : Nat} (hm : m ≤ p.size) (ha : Alike lt p m r) (hr : r + 1 ≤ m) (k : Nat) : Same2 lt (pat (kas_rev p (m - (r + 1)) m) k) (pat p k) := by
  rw [pat_rev hm]
  by_cases h : m - (r + 1) ≤ k ∧ k < m
  · rw [if_pos h]
    have a := ha (m - (r + 1) + m - 1 - k) (by omega) (by omega)
    have b := ha k (by omega) h.2
    exact ⟨O.le_tr a.1 b.2, O.le_tr b.1 a.2⟩
  · rw [if_neg h]
    exact ⟨O.rfl' _, O.rfl' _⟩
theorem desc_ok (O : POrd lt) (hc : Cmps lt n cmp s) {Q : Array Nat × Nat × Nat → Shared → Prop} : ∀ (f : Nat) (p : Array Nat) (m r : Nat), Pl n p → r + 1 ≤ m → m + f ≤ n → FallTo lt p m → Alike lt p m r →
    (∀ p' m' r', Pl n p' → r' + 1 ≤ m' → m' ≤ n → FallTo lt p' m' → Alike lt p' m' r' → Q (p', m', r') s) → (kas_desc f p m r).kasWp cmp Q s
  | 0, p, m, r, hp, h1, h2, hf, ha, k => k p m r hp h1 (by omega) hf ha
  | f + 1, p, m, r, hp, h1, h2, hf, ha, k => by
    have hsz := hp.size
    refine hc _ _ _ (hp.below (by omega)) (hp.below (by omega)) ?_
    cases e : lt (p.getD m 0) (p.getD (m - 1) 0) with
    | true =>
      have one : ∀ q : Array Nat, Alike lt q (m + 1) 0 := fun q k a b => by
        have : k = m + 1 - 1 := by omega
        subst this
        exact ⟨O.rfl' _, O.rfl' _⟩
      have up := fall_one O hf (by omega) (O.le_of e)
      by_cases hr : r > 0
      · show (if r > 0 then kas_desc f (kas_rev p (m - (r + 1)) m) (m + 1) 0 else kas_desc f p (m + 1) 0).kasWp cmp Q s
        rw [if_pos hr]
        exact desc_ok O hc f _ (m + 1) 0 hp.rev (by omega) (by omega) (fall_same O up fun k _ => rev_alike O (by omega) ha h1 k) (one _) k
      · show (if r > 0 then kas_desc f (kas_rev p (m - (r + 1)) m) (m + 1) 0 else kas_desc f p (m + 1) 0).kasWp cmp Q s
        rw [if_neg hr]
        exact desc_ok O hc f _ (m + 1) 0 hp (by omega) (by omega) up (one _) k
    | false =>
      show (KasT.ask (p.getD (m - 1) 0) (p.getD m 0) fun d => if d = true then .ret (p, m, r) else kas_desc f p (m + 1) (r + 1)).kasWp cmp Q s
      refine hc _ _ _ (hp.below (by omega)) (hp.below (by omega)) ?_
      cases e2 : lt (p.getD (m - 1) 0) (p.getD m 0) with
      | true => exact k p m r hp h1 (by omega) hf ha
      | false =>
        refine desc_ok O hc f p (m + 1) (r + 1) hp (by omega) (by omega) (fall_one O hf (by omega) e2) (fun k a b => ?_) k
        have e3 : m + 1 - 1 = m := by omega
        rw [e3]
        by_cases hk : k = m
        · subst hk; exact ⟨O.rfl' _, O.rfl' _⟩
        · have q := ha k (by omega) (by omega)
          exact ⟨O.le_tr q.1 e, O.le_tr e2 q.2⟩
theorem sort_of_fall {p : Array Nat} {m : Nat} (hm : m ≤ p.size) (hf : FallTo lt p m) : SortTo lt (kas_rev p 0 m) m := by
  intro i j hij hj
  rw [pat_rev hm, pat_rev hm, if_pos ⟨Nat.zero_le _, by omega⟩, if_pos ⟨Nat.zero_le _, hj⟩]
  exact hf _ _ (by omega) (by omega)
theorem tail_ok (O : POrd lt) (hc : Cmps lt n cmp s) {p : Array Nat} {m : Nat} {Q : Nat × Array Nat → Shared → Prop} (hp : Pl n p) (h1 : 1 ≤ m) (h2 : m ≤ n) (hf : FallTo lt p m)
    (k : ∀ r q, Pl n q → 1 ≤ r → r ≤ n → SortTo lt q r → Q (r, q) s) : (kas_tail3 m n p).kasWp cmp Q s := by
  unfold kas_tail3
  rw [KasT.kasWp_bind]
  exact asc_ok O hc hp.rev _ _ h1 (by omega) (sort_of_fall (by rw [hp.size]; omega) hf) fun r a b c _ => k r _ hp.rev (by omega) (by omega) c
theorem descPart_ok (O : POrd lt) (hc : Cmps lt n cmp s) {p : Array Nat} {m : Nat} {Q : Nat × Array Nat → Shared → Prop} (hp : Pl n p) (h1 : 1 ≤ m) (h2 : m < n) (hf : FallTo lt p (m + 1))
    (k : ∀ r q, Pl n q → 1 ≤ r → r ≤ n → SortTo lt q r → Q (r, q) s) : (kas_descPart m n p).kasWp cmp Q s := by
  unfold kas_descPart
  rw [KasT.kasWp_bind]
  refine desc_ok O hc _ p (m + 1) 0 hp (by omega) (by omega) hf (fun k a b => ?_) fun p' m' r' hp' hr hm hf' ha' => ?_
  · have : k = m + 1 - 1 := by omega
    subst this
    exact ⟨O.rfl' _, O.rfl' _⟩
  · by_cases h : r' > 0
    · show (if r' > 0 then kas_tail3 m' n (kas_rev p' (m' - (r' + 1)) m') else kas_tail3 m' n p').kasWp cmp Q s
      rw [if_pos h]
      exact tail_ok O hc hp'.rev (by omega) hm (fall_same O hf' fun k _ => rev_alike O (by rw [hp'.size]; exact hm) ha' hr k) k
    · show (if r' > 0 then kas_tail3 m' n (kas_rev p' (m' - (r' + 1)) m') else kas_tail3 m' n p').kasWp cmp Q s
      rw [if_neg h]
      exact tail_ok O hc hp' (by omega) hm hf' k
theorem count_ok (O : POrd lt) (hc : Cmps lt n cmp s) {p : Array Nat} {Q : Nat × Array Nat → Shared → Prop} (hp : Pl n p) (h2 : 2 ≤ n) (k : ∀ r q, Pl n q → 1 ≤ r → r ≤ n → SortTo lt q r → Q (r, q) s) :
    (kas_count n p).kasWp cmp Q s := by
  unfold kas_count
  rw [KasT.kasWp_bind]
  have hsz := hp.size
  refine asc_ok O hc hp _ 1 (Nat.le_refl _) (by omega) (fun i j a b => ?_) fun r a b hs hstop => ?_
  · have e : i = j := by omega
    subst e; exact O.rfl' _
  · by_cases e : r = n
    · subst e
      rw [if_pos (by simp)]
      exact k r p hp a (Nat.le_refl _) hs
    · rw [if_neg (by simpa using e)]
      have hlt : lt (pat p r) (pat p (r - 1)) = true := by
        rcases hstop with z | z
        · omega
        · exact z
      by_cases h1 : r > 1
      · rw [if_pos h1]
        refine hc _ _ _ (hp.below (by omega)) (hp.below (by omega)) ?_
        cases e2 : lt (p.getD 0 0) (p.getD (r - 1) 0) with
        | true => exact k r p hp a (by omega) hs
        | false =>
          show (kas_descPart r n (kas_rev p 0 r)).kasWp cmp Q s
          have al : ∀ x, x < r → Same2 lt (pat p x) (pat p 0) := fun x hx => ⟨O.le_tr (hs x (r - 1) (by omega) (by omega)) e2, hs 0 x (by omega) hx⟩
          refine descPart_ok O hc hp.rev a (by omega) (fun i j hij hj => ?_) k
          have v : ∀ x, x < r → Same2 lt (pat (kas_rev p 0 r) x) (pat p 0) := fun x hx => by
            rw [pat_rev (by omega), if_pos ⟨Nat.zero_le _, hx⟩]
            exact al _ (by omega)
          by_cases ej : j = r
          · subst ej
            have er : pat (kas_rev p 0 j) j = pat p j := by rw [pat_rev (by omega), if_neg (by omega)]
            by_cases ei : i = j
            · subst ei; exact O.rfl' _
            · rw [er]
              exact O.le_tr (O.le_of hlt) (O.le_tr (al (j - 1) (by omega)).1 (v i (by omega)).2)
          · exact O.le_tr (v j (by omega)).1 (v i (by omega)).2
      · rw [if_neg h1]
        have e1 : r = 1 := by omega
        subst e1
        refine descPart_ok O hc hp (Nat.le_refl _) (by omega) (fun i j hij hj => ?_) k
        by_cases ej : i = j
        · subst ej; exact O.rfl' _
        · have e3 : i = 0 := by omega
          have e4 : j = 1 := by omega
          subst e3 e4
          exact O.le_of hlt
theorem place_ok (O : POrd lt) (hc : Cmps lt n cmp s) {p : Array Nat} (hp : Pl n p) {c : Nat} (hcn : c < n) (hs : SortTo lt p c) {Q : Nat → Shared → Prop} : ∀ (f l r : Nat), l ≤ r → r ≤ c → r - l ≤ f → (∀ i, i < l → ple lt (pat p i) (pat p c)) → (∀ i, r ≤ i → i < c → ple lt (pat p c) (pat p i)) →
    (∀ l, l ≤ c → (∀ i, i < l → ple lt (pat p i) (pat p c)) → (∀ i, l ≤ i → i < c → ple lt (pat p c) (pat p i)) → Q l s) → (kas_place p c f l r).kasWp cmp Q s
  | 0, l, r, h1, h2, h3, a, b, k => k l (by omega) a fun i hi hc' => b i (by omega) hc'
  | f + 1, l, r, h1, h2, h3, a, b, k => by
    by_cases h : l ≥ r
    · show (if l ≥ r then KasT.ret l else _).kasWp cmp Q s
      rw [if_pos h]
      exact k l (by omega) a fun i hi hc' => b i (by omega) hc'
    · show (if l ≥ r then KasT.ret l else KasT.ask (p.getD c 0) (p.getD ((l + r) / 2) 0) fun d => if d = true then kas_place p c f l ((l + r) / 2) else kas_place p c f ((l + r) / 2 + 1) r).kasWp cmp Q s
      rw [if_neg h]
      refine hc _ _ _ (hp.below hcn) (hp.below (by omega)) ?_
      cases e : lt (p.getD c 0) (p.getD ((l + r) / 2) 0) with
      | true => exact place_ok O hc hp hcn hs f l _ (by omega) (by omega) (by omega) a (fun i hi hic => O.le_tr (O.le_of e) (hs _ i hi hic)) k
      | false => exact place_ok O hc hp hcn hs f _ r (by omega) (by omega) (by omega) (fun i hi => O.le_tr (hs i ((l + r) / 2) (by omega) (by omega)) e) b k
theorem sort_ins (O : POrd lt) {p : Array Nat} {c l : Nat} (hc : c < p.size) (hs : SortTo lt p c) (hl : l ≤ c) (a : ∀ i, i < l → ple lt (pat p i) (pat p c)) (b : ∀ i, l ≤ i → i < c → ple lt (pat p c) (pat p i)) : SortTo lt (bubble p c (c - l)) (c + 1) := by
  intro i j hij hj
  have e0 : c - (c - l) = l := by omega
  rw [pat_bub hc (by omega), pat_bub hc (by omega), e0]
  by_cases h1 : i = l
  · rw [if_pos h1]
    by_cases h2 : j = l
    · rw [if_pos h2]; exact O.rfl' _
    · rw [if_neg h2, if_pos ⟨by omega, by omega⟩]; exact b _ (by omega) (by omega)
  · rw [if_neg h1]
    by_cases h3 : l < i ∧ i ≤ c
    · rw [if_pos h3, if_neg (by omega), if_pos ⟨by omega, by omega⟩]
      exact hs _ _ (by omega) (by omega)
    · rw [if_neg h3]
      by_cases h2 : j = l
      · rw [if_pos h2]; exact a i (by omega)
      · rw [if_neg h2]
        by_cases h4 : l < j ∧ j ≤ c
        · rw [if_pos h4]; exact hs _ _ (by omega) (by omega)
        · rw [if_neg h4]; exact hs _ _ hij (by omega)
theorem bin_ok (O : POrd lt) (hc : Cmps lt n cmp s) {Q : Array Nat → Shared → Prop} : ∀ (f : Nat) (p : Array Nat) (c : Nat), Pl n p → c + f = n → SortTo lt p c → (∀ q, Pl n q → SortTo lt q n → Q q s) → (kas_bin f p c).kasWp cmp Q s
  | 0, p, c, hp, h, hs, k => k p hp (by rw [show n = c by omega]; exact hs)
  | f + 1, p, c, hp, h, hs, k => by
    show ((kas_place p c c 0 c).bind fun l => kas_bin f (bubble p c (c - l)) (c + 1)).kasWp cmp Q s
    rw [KasT.kasWp_bind]
    refine place_ok O hc hp (by omega) hs c 0 c (Nat.zero_le _) (Nat.le_refl _) (by omega) (fun i hi => absurd hi (by omega)) (fun i h1 h2 => absurd h1 (by omega)) fun l hl a b => ?_
    exact bin_ok O hc f _ (c + 1) hp.bub (by omega) (sort_ins O (by rw [hp.size]; omega) hs hl a b) k
theorem kas_sort_ok (O : POrd lt) (hc : Cmps lt n cmp s) (h2 : 2 ≤ n) {Q : Array Nat → Shared → Prop} (k : ∀ q, Pl n q → SortTo lt q n → Q q s) : (kas_sort n).kasWp cmp Q s := by
  unfold kas_sort
  rw [KasT.kasWp_bind]
  refine count_ok O hc (Array.Perm.refl _) h2 fun r q hq h1 hr hs => ?_
  have em : max r 1 = r := by omega
  by_cases h : r < n
  · show (if r < n then kas_bin (n - max r 1) q (max r 1) else .ret q).kasWp cmp Q s
    rw [if_pos h, em]
    exact bin_ok O hc _ q r hq (by omega) hs k
  · show (if r < n then kas_bin (n - max r 1) q (max r 1) else .ret q).kasWp cmp Q s
    rw [if_neg h]
    exact k q hq (by rw [show n = r by omega]; exact hs)
end
end TT
namespace TT
open PySem L2

/-! ### data, and how a heap bears it -/
inductive D where
  | int (i : Int) | str (x : Str) | bl (b : Bool) | non | lst (xs : List D) | tup (xs : List D)
mutual
def D.size : D → Nat
  | .lst xs => 1 + sizes xs
  | .tup xs => 1 + sizes xs
  | .int _ => 1
  | .str _ => 1
  | .bl _ => 1
  | .non => 1
def sizes : List D → Nat
  | [] => 0
  | d :: ds => d.size + sizes ds
end
theorem size_pos (d : D) : 1 ≤ d.size := by cases d <;> simp [D.size]
theorem sizes_append : ∀ a b : List D, sizes (a ++ b) = sizes a + sizes b
  | [], b => by simp [sizes]
  | d :: a, b => by rw [List.cons_append, sizes, sizes, sizes_append a b]; omega
theorem length_le_sizes : ∀ ds : List D, ds.length ≤ sizes ds
  | [] => Nat.le_refl _
  | d :: ds => by have := length_le_sizes ds; have := size_pos d; rw [List.length_cons, sizes]; omega
mutual
inductive Rep (G : Hp) : V → D → Prop
  | int (i : Int) : Rep G (.int i) (.int i)
  | str (x : Str) : Rep G (.str x) (.str x)
  | bl (b : Bool) : Rep G (.bl b) (.bl b)
  | non : Rep G .non .non
  | lst {a : Addr} {vs : List V} {ds : List D} (h : G a = some (.lst vs)) (r : Reps G vs ds) : Rep G (.ref a) (.lst ds)
  | tup {a : Addr} {vs : List V} {ds : List D} (h : G a = some (.tup vs)) (r : Reps G vs ds) : Rep G (.ref a) (.tup ds)
inductive Reps (G : Hp) : List V → List D → Prop
  | nil : Reps G [] []
  | cons {v : V} {vs : List V} {d : D} {ds : List D} (r : Rep G v d) (t : Reps G vs ds) : Reps G (v :: vs) (d :: ds)
end
mutual
theorem Rep.mono {G G' : Hp} (e : Same G G') : ∀ {v : V} {d : D}, Rep G v d → Rep G' v d
  | _, _, .int i => .int i
  | _, _, .str x => .str x
  | _, _, .bl b => .bl b
  | _, _, .non => .non
  | _, _, .lst h r => .lst (e _ _ h) (Reps.mono e r)
  | _, _, .tup h r => .tup (e _ _ h) (Reps.mono e r)
theorem Reps.mono {G G' : Hp} (e : Same G G') : ∀ {vs : List V} {ds : List D}, Reps G vs ds → Reps G' vs ds
  | _, _, .nil => .nil
  | _, _, .cons r t => .cons (Rep.mono e r) (Reps.mono e t)
end
section
variable {G : Hp}
theorem Reps.length : ∀ {vs : List V} {ds : List D}, Reps G vs ds → vs.length = ds.length
  | _, _, .nil => rfl
  | _, _, .cons _ t => by rw [List.length_cons, List.length_cons, Reps.length t]
theorem Reps.append : ∀ {vs ws : List V} {ds es : List D}, Reps G vs ds → Reps G ws es → Reps G (vs ++ ws) (ds ++ es)
  | _, _, _, _, .nil, s => s
  | _, _, _, _, .cons r t, s => .cons r (Reps.append t s)
theorem Reps.take : ∀ {vs : List V} {ds : List D} (n : Nat), Reps G vs ds → Reps G (vs.take n) (ds.take n)
  | _, _, 0, _ => .nil
  | _, _, _ + 1, .nil => .nil
  | _, _, n + 1, .cons r t => .cons r (Reps.take n t)
theorem Reps.drop : ∀ {vs : List V} {ds : List D} (n : Nat), Reps G vs ds → Reps G (vs.drop n) (ds.drop n)
  | _, _, 0, r => r
  | _, _, _ + 1, .nil => .nil
  | _, _, n + 1, .cons _ t => Reps.drop n t
theorem Reps.get : ∀ {vs : List V} {ds : List D} {i : Nat} {d : D}, Reps G vs ds → ds[i]? = some d → ∃ v, vs[i]? = some v ∧ Rep G v d
  | _, _, _, _, .nil, e => by simp at e
  | _, _, 0, _, .cons r _, e => by simp at e; subst e; exact ⟨_, rfl, r⟩
  | _, _, i + 1, d, .cons _ t, e => by
    obtain ⟨v, h1, h2⟩ := Reps.get (i := i) (d := d) t (by simpa using e)
    exact ⟨v, by simpa using h1, h2⟩
theorem Reps.at : ∀ {vs : List V} {ds : List D} {i : Nat} {v : V}, Reps G vs ds → vs[i]? = some v → ∃ d, ds[i]? = some d ∧ Rep G v d
  | _, _, _, _, .nil, e => by simp at e
  | _, _, 0, _, .cons r _, e => by simp at e; subst e; exact ⟨_, rfl, r⟩
  | _, _, i + 1, d, .cons _ t, e => by
    obtain ⟨v, h1, h2⟩ := Reps.at (i := i) (v := d) t (by simpa using e)
    exact ⟨v, by simpa using h1, h2⟩
theorem reps_ints : ∀ {vs : List V} {p : List Int}, Reps G vs (p.map D.int) → vs = p.map V.int
  | _, [], .nil => rfl
  | _, i :: p, .cons (.int _) t => by rw [List.map_cons, reps_ints t]
theorem ints_reps : ∀ (p : List Int), Reps G (p.map V.int) (p.map D.int)
  | [] => .nil
  | i :: p => .cons (.int i) (ints_reps p)
end

/-! ### trees as data -/
mutual
def Tr.d : Tr → D
  | .node m ks => .tup (.str m :: dOf ks)
def dOf : List Tr → List D
  | [] => []
  | t :: ts => t.d :: dOf ts
end
theorem dOf_map : ∀ ts : List Tr, dOf ts = ts.map Tr.d
  | [] => rfl
  | t :: ts => by rw [dOf, dOf_map ts, List.map_cons]
theorem tree_d (t : Tr) : t.d = .tup (.str t.mark :: t.kids.map Tr.d) := by cases t; rw [Tr.d, dOf_map]; rfl
mutual
theorem Tr.d_size : ∀ t : Tr, t.d.size = 2 * t.knots
  | .node m ks => by rw [Tr.d, D.size, sizes, D.size, dOf_size ks, Tr.knots]; omega
theorem dOf_size : ∀ ts : List Tr, sizes (dOf ts) = 2 * knotsOf ts
  | [] => rfl
  | t :: ts => by rw [dOf, sizes, Tr.d_size t, dOf_size ts, knotsOf]; omega
end
def rowD (ts : List Tr) : D := .lst (ts.map Tr.d)
theorem rowD_size (ts : List Tr) : (rowD ts).size = 1 + 2 * knotsOf ts := by rw [rowD, D.size, ← dOf_map, dOf_size]
def pathD (p : List Int) : D := .lst (p.map D.int)
section
variable {G : Hp}
theorem Rep.row {v : V} {ts : List Tr} (r : Rep G v (rowD ts)) : ∃ a vs, v = .ref a ∧ G a = some (.lst vs) ∧ Reps G vs (ts.map Tr.d) := by
  cases r with
  | lst h t => exact ⟨_, _, rfl, h, t⟩
theorem Rep.tree {v : V} {t : Tr} (r : Rep G v t.d) : ∃ a vs, v = .ref a ∧ G a = some (.tup (.str t.mark :: vs)) ∧ Reps G vs (t.kids.map Tr.d) := by
  rw [tree_d] at r
  cases r with
  | tup h t =>
    cases t with
    | cons r t =>
      cases r
      exact ⟨_, _, rfl, h, t⟩
theorem Rep.path {v : V} {p : List Int} (r : Rep G v (pathD p)) : ∃ a, v = .ref a ∧ G a = some (.lst (p.map V.int)) := by
  cases r with
  | lst h t =>
    have e := reps_ints t
    subst e
    exact ⟨_, rfl, h⟩
end

/-! ### what is frozen (G) of what stands (H), and how both grow -/
structure Ext (G H G' H' : Hp) : Prop where
  g : Same G G'
  gh : Same G' H'
  h : Same H H'
  new : ∀ a o, H a = some o → G' a = G a
section
variable {G H G1 H1 G2 H2 : Hp} {p : Addr} {o : HO}
theorem Ext.refl (s : Same G H) : Ext G H G H := ⟨Same.refl G, s, Same.refl H, fun _ _ _ => rfl⟩
theorem Ext.trans (a : Ext G H G1 H1) (b : Ext G1 H1 G2 H2) : Ext G H G2 H2 :=
  ⟨a.g.trans b.g, b.gh, a.h.trans b.h, fun c u e => (b.new c u (a.h c u e)).trans (a.new c u e)⟩
theorem same_upd (n : H p = none) : Same H (upd H p o) := fun b u e => by
  rw [upd_ne (ne_of_none e n)]; exact e
theorem Ext.add (s : Same G H) (n : H p = none) : Ext G H (upd G p o) (upd H p o) := by
  have ng : G p = none := by
    cases e : G p with
    | none => rfl
    | some u => rw [s p u e] at n; cases n
  refine ⟨same_upd ng, fun b u e => ?_, same_upd n, fun b u e => ?_⟩
  · by_cases hb : b = p
    · subst hb; rw [upd_same] at e ⊢; exact e
    · rw [upd_ne hb] at e ⊢; exact s b u e
  · exact upd_ne (ne_of_none e n)
theorem Ext.keep (x : Ext G H G1 H1) {a : Addr} {u : HO} (h : H a = some u) (n : G a = none) : G1 a = none := (x.new a u h).trans n
/-- a list that is not frozen is changed -/
theorem same_mut {a : Addr} (s : Same G H) (n : G a = none) : Same G (upd H a o) := fun b u e => by
  rw [upd_ne (ne_of_none e n)]; exact s b u e
/-- something new that is not frozen -/
theorem _root_.L2.Same.none {a : Addr} (s : Same G H) (n : H a = Option.none) : G a = Option.none := by
  cases e : G a with
  | none => rfl
  | some u => rw [s a u e] at n; cases n
end
end TT
namespace TT
open PySem PySem.Spec PyProof.Rows L2

/-! ### the order of two lists of ints, as the machine asks it -/
section
open PySem.SeqAt PySem.MeetsSeq PySem.MeetsSeq2 PySem.MeetsSeq3 HT
open PySem.AutoSeq1 (wpAny_loadPart')
theorem ints_at {us : List Value} {ns : List Int} (h : IntsAre us ns) : ∀ {i : Nat} {k : Int}, ns[i]? = some k → ∃ t, us[i]? = some (.int k t) := by
  induction h with
  | nil => intro i k e; simp at e
  | cons a t _ ih =>
    intro i k e
    cases i with
    | zero => simp at e; subst e; exact ⟨t, rfl⟩
    | succ i => obtain ⟨u, hu⟩ := ih (i := i) (k := k) (by simpa using e); exact ⟨u, by simpa using hu⟩
set_option maxHeartbeats 1000000 in
theorem less_loop (l b : Addr) (xs ys : Array Value) (c1 c2 : Nat) (d1 d2 : Option Addr) (s1 s2 : Array (Option Value)) (ns ms : List Int) (hi : IntsAre xs.toList ns) (hj : IntsAre ys.toList ms) (k : Nat) :
    ∀ i : Nat, xs.size - i = k → i ≤ xs.size → i ≤ ys.size → Meets (Builtin.«list.__eq__.loop» ⟨[.ref l, .ref b, rawInt i, rawInt 0], []⟩)
      (fun _ R s => s.heap.get? l = some ⟨.type "list", d1, .seq xs c1, s1⟩ ∧ s.heap.get? b = some ⟨.type "list", d2, .seq ys c2, s2⟩ ∧ R (.ok (.ret (.bool (HT.lexLt (ns.drop i) (ms.drop i))))) s) := by
  have z1 : xs.size = ns.length := by rw [← hi.length]; simp
  have z2 : ys.size = ms.length := by rw [← hj.length]; simp
  induction k with
  | zero =>
    intro i hk h1 h2 prog w A R s h
    obtain ⟨hp, g, d, tk, os⟩ := s
    obtain ⟨ha, hb, h⟩ := h
    wp_walk using wpAny_loadPart' ha, wpAny_loadPart' hb
    have e1 : xs[((i : Nat) : Int).toNat]? = none := by simp; omega
    have en : ns.drop i = [] := List.drop_of_length_le (by omega)
    rw [en] at h
    by_cases hy : i < ys.size
    · have e2 : ys[((i : Nat) : Int).toNat]? = some ys[i] := by simp [hy]
      rw [e1, e2]
      wp_walk using wpAny_loadPart' ha, wpAny_loadPart' hb
      show R (.ok (.ret (.bool (decide (xs.size < ys.size))))) _
      have em : HT.lexLt [] (ms.drop i) = decide (xs.size < ys.size) := by
        rw [List.drop_eq_getElem_cons (show i < ms.length by omega)]
        exact (decide_eq_true (by omega)).symm
      rw [← em]
      exact h
    · have e2 : ys[((i : Nat) : Int).toNat]? = none := by simp; omega
      rw [e1, e2]
      wp_walk using wpAny_loadPart' ha, wpAny_loadPart' hb
      show R (.ok (.ret (.bool (decide (xs.size < ys.size))))) _
      have em : HT.lexLt [] (ms.drop i) = decide (xs.size < ys.size) := by
        rw [List.drop_of_length_le (show ms.length ≤ i by omega)]
        exact (decide_eq_false (by omega)).symm
      rw [← em]
      exact h
  | succ k ih =>
    intro i hk h1 h2 prog w A R s h
    obtain ⟨hp, g, d, tk, os⟩ := s
    obtain ⟨ha, hb, h⟩ := h
    wp_walk using wpAny_loadPart' ha, wpAny_loadPart' hb
    have hx : i < xs.size := by omega
    have hxn : i < ns.length := by omega
    obtain ⟨ta, ea⟩ := ints_at hi (i := i) (k := ns[i]) (by simp [hxn])
    have e1 : xs[((i : Nat) : Int).toNat]? = some (.int ns[i] ta) := by rw [Int.toNat_natCast, ← Array.getElem?_toList]; exact ea
    by_cases hy : i < ys.size
    · have hyn : i < ms.length := by omega
      obtain ⟨tc, ec⟩ := ints_at hj (i := i) (k := ms[i]) (by simp [hyn])
      have e2 : ys[((i : Nat) : Int).toNat]? = some (.int ms[i] tc) := by rw [Int.toNat_natCast, ← Array.getElem?_toList]; exact ec
      rw [e1, e2]
      have hd : HT.lexLt (ns.drop i) (ms.drop i) = if ns[i] = ms[i] then HT.lexLt (ns.drop (i + 1)) (ms.drop (i + 1)) else decide (ns[i] < ms[i]) := by
        rw [List.drop_eq_getElem_cons hxn, List.drop_eq_getElem_cons hyn]
        all_goals rfl
      rw [hd] at h
      have hc : ((i : Int) + 1) = ((i + 1 : Nat) : Int) := by push_cast; rfl
      obtain ⟨e, he, hiff⟩ := eqAt_int A.in1 ⟨hp, g, d, tk, os⟩ ns[i] ta ms[i] tc
      refine wpAny_bind (he prog w _ _ ?_)
      cases e with
      | true =>
        rw [if_pos (hiff.mp rfl)] at h
        wp_walk
        rw [hc]
        exact ⟨plainId_quiet plain_eq_loop _, codeAny_builtin entry_eq_loop (by
          rw [Around.under_plainId plain_eq_loop _]
          exact ih (i + 1) (by omega) (by omega) (by omega) prog w A R _ ⟨ha, hb, h⟩)⟩
      | false =>
        rw [if_neg (fun q => absurd (hiff.mpr q) Bool.false_ne_true)] at h
        have hri := rcLt_int A.in1 ⟨hp, g, d, tk, os⟩ ns[i] ta ms[i] tc prog w
        wp_walk using wpAny_loadPart' ha, wpAny_loadPart' hb
        rw [e1, e2]
        wp_walk using hri
        exact h
    · have e2 : ys[((i : Nat) : Int).toNat]? = none := by simp; omega
      rw [e1, e2]
      wp_walk using wpAny_loadPart' ha, wpAny_loadPart' hb
      show R (.ok (.ret (.bool (decide (xs.size < ys.size))))) _
      have em : HT.lexLt (ns.drop i) (ms.drop i) = decide (xs.size < ys.size) := by
        rw [List.drop_of_length_le (show ms.length ≤ i by omega), List.drop_eq_getElem_cons hxn]
        exact (decide_eq_false (by omega)).symm
      rw [← em]
      exact h
theorem less_ints (l b : Addr) (xs ys : Array Value) (c1 c2 : Nat) (d1 d2 : Option Addr) (s1 s2 : Array (Option Value)) (ns ms : List Int) (hi : IntsAre xs.toList ns) (hj : IntsAre ys.toList ms) :
    Meets (Builtin.«list.__lt__» ⟨[.ref l, .ref b], []⟩)
      (fun _ R s => s.heap.get? l = some ⟨.type "list", d1, .seq xs c1, s1⟩ ∧ s.heap.get? b = some ⟨.type "list", d2, .seq ys c2, s2⟩ ∧ R (.ok (.ret (.bool (HT.lexLt ns ms)))) s) := by
  intro prog w A R s h
  obtain ⟨hp, g, d, tk, os⟩ := s
  obtain ⟨ha, hb, h⟩ := h
  have f3 := AutoSeq1.sub_list_list
  wp_walk using wpAny_loadPart' ha, wpAny_loadPart' hb
  exact ⟨plainId_quiet plain_eq_loop _, codeAny_builtin entry_eq_loop (by
    rw [Around.under_plainId plain_eq_loop _]
    exact less_loop l b xs ys c1 c2 d1 d2 s1 s2 ns ms hi hj _ 0 rfl (Nat.zero_le _) (Nat.zero_le _) prog w A R _ ⟨ha, hb, by simpa using h⟩)⟩
theorem sortLt_list {prog : Program} {w : World} {A : Around} {E : Value → Shared → Prop} {s : Shared} {l b : Addr} {xs ys : Array Value} {ns ms : List Int} {Q : Bool → Shared → Prop} (hl : s.heap.IsList l xs) (hb : s.heap.IsList b ys)
    (hi : IntsAre xs.toList ns) (hj : IntsAre ys.toList ms) (hu : A.units < cLine) (h : Q (HT.lexLt ns ms) s) : wpAny (model prog w) A (oneLt' true (.ref l) (.ref b)) Q E s := by
  obtain ⟨⟨c1, d1, dt1, sl1⟩, ho, hc, n, hd⟩ := id hl
  obtain ⟨⟨c2, d2, dt2, sl2⟩, ho2, hc2, n2, hd2⟩ := id hb
  simp only at hc hd hc2 hd2
  subst hc hd hc2 hd2
  rw [oneLt'_eq]
  simp only [if_true]
  refine wpAny_bind (wpAny_cRoomFor hu ?_)
  refine wpAny_bind (wpAny_callSpecialIfBound?_slot (T := "list") ⟨_, ho, rfl⟩ PySem.F.slot_list_lt (call_meets PySem.F.slot_list_lt ⟨_, ho, rfl⟩ PySem.F.entry_list_lt (PySem.F.args_list_lt_2 _ _) (less_ints l b xs ys n n2 d1 d2 sl1 sl2 ns ms hi hj) ⟨ho, ho2, ?_⟩))
  exact wpAny_truthy_bool h
end

/-! ### sorted of one item or none -/
section
variable {prog : Program} {w : World} {A : Around} {E : Value → Shared → Prop} {s : Shared}
theorem sort_short {a : Addr} {us : List Value} {n : Nat} {P : PySem.Fin → Shared → Prop} (ho : s.heap.get? a = some (seqObj "list" us.toArray n)) (h2 : us.length < 2)
    (h : ∀ h' c, (∀ b o, b ≠ a → s.heap.get? b = some o → h'.get? b = some o) → h'.get? a = some (seqObj "list" us.toArray c) → P (.done (.ret .none)) { s with heap := h' }) :
    wpAny (model prog w) A (Builtin.«list.sort» ⟨[.ref a], []⟩) P E s := by
  have small : us.length ≤ sizeLine := by rw [sizeLine_eq]; omega
  have hlt : a < s.heap.objs.size := Heap.lt_size ho
  rw [list_sort_plain]
  refine wpAny_bind (listItems_at ho rfl ?_)
  refine wpAny_bind (listUpdate_at ho rfl ?_ (by rw [List.size_toArray]; exact small) (Nat.zero_le _))
  obtain ⟨k1, hk1⟩ : ∃ k1, (s.heap.update a (Obj.mapSeq fun _ => (#[] : Array Value))).get? a = some (seqObj "list" #[] k1) := ⟨_, get?_update_seq ho fun _ => #[]⟩
  refine wpAny_bind (seqEpoch_at hk1 rfl ?_)
  refine wpAny_bind (wpAny_newTuple ?_ (by show us.length ≤ _; exact small))
  refine wpAny_bind (wpAny_newList ?_ (Nat.zero_le _))
  refine wpAny_holding ?_
  have hk2 : (((s.heap.update a (Obj.mapSeq fun _ => (#[] : Array Value))).push (seqObj "tuple" us.toArray 0)).push (seqObj "list" #[] 0)).get? a = some (seqObj "list" #[] k1) := Heap.get?_push_of_some _ (Heap.get?_push_of_some _ hk1)
  show wpAny (model prog w) A _ P E { s with heap := ((s.heap.update a (Obj.mapSeq fun _ => (#[] : Array Value))).push (seqObj "tuple" us.toArray 0)).push (seqObj "list" #[] 0) }
  dsimp only
  have hs : us.toArray.size < 2 := by rw [List.size_toArray]; exact h2
  rw [if_pos hs, if_pos hs]
  refine wpAny_bind (wpAny_pure ?_)
  rw [StateT.run_pure]
  refine wpAny_bind (wpAny_pure ?_)
  dsimp only
  have eo : (arrOf (SortSt.mk' general' (us.toArray.zip us.toArray) #[] 7 none)).map (·.2) = us.toArray := by
    show (us.toArray.zip us.toArray).map (·.2) = us.toArray
    apply Array.toList_inj.mp
    simp only [Array.toList_map, Array.toList_zip]
    exact List.map_snd_zip (Nat.le_refl _)
  rw [eo]
  refine wpAny_bind (seqEpoch_at hk2 rfl ?_)
  refine wpAny_bind (listUpdate_at hk2 rfl ?_ (Nat.zero_le _) (by show us.length ≤ _; omega))
  simp only [bne_self_eq_false, Bool.false_eq_true, if_false]
  obtain ⟨k3, hk3⟩ : ∃ k3, ((((s.heap.update a (Obj.mapSeq fun _ => (#[] : Array Value))).push (seqObj "tuple" us.toArray 0)).push (seqObj "list" #[] 0)).update a (Obj.mapSeq fun _ => us.toArray)).get? a = some (seqObj "list" us.toArray k3) :=
    ⟨_, get?_update_seq hk2 fun _ => us.toArray⟩
  refine wpAny_pure (h _ k3 (fun b o hb e => ?_) hk3)
  rw [Heap.get?_update_other _ _ (Ne.symm hb)]
  exact Heap.get?_push_of_some _ (Heap.get?_push_of_some _ ((Heap.get?_update_other _ _ (Ne.symm hb)).trans e))
theorem sorted_short {l : Addr} {us : List Value} {Q : Value → Shared → Prop} (hl : s.heap.IsList l us.toArray) (h2 : us.length < 2)
    (h : ∀ p h' c, s.heap.objs.size ≤ p → (∀ b o, s.heap.get? b = some o → h'.get? b = some o) → h'.get? p = some (seqObj "list" us.toArray c) → Q (.ref p) { s with heap := h' }) :
    wpAny (model prog w) A (call (.builtin "sorted") [.ref l]) Q E s := by
  have small : us.toArray.size ≤ sizeLine := by rw [List.size_toArray, sizeLine_eq]; omega
  refine Calls.call_function_entry kind_sorted plain_sorted entry_sorted (args_sorted1 _) ?_
  unfold Builtin.«sorted»
  refine wpAny_bind (m := checkCount "sorted" 1 1 _) (wpAny_pure ?_)
  refine wpAny_bind (collect_list hl ?_ small)
  refine wpAny_bind (wpAny_newList ?_ (by rw [← List.size_toArray]; exact small))
  have z : ((s.heap.push (seqObj "list" #[] 0)).update s.heap.objs.size (Obj.mapSeq (· ++ us.toArray))).objs.size = s.heap.objs.size + 1 := by rw [Heap.size_update, size_push']
  have at1 : (((s.heap.push (seqObj "list" #[] 0)).update s.heap.objs.size (Obj.mapSeq (· ++ us.toArray))).push (seqObj "list" us.toArray 0)).get? (s.heap.objs.size + 1) = some (seqObj "list" us.toArray 0) := by
    rw [← z]; exact Heap.get?_push_size _ rfl
  have old : ∀ b o, s.heap.get? b = some o → (((s.heap.push (seqObj "list" #[] 0)).update s.heap.objs.size (Obj.mapSeq (· ++ us.toArray))).push (seqObj "list" us.toArray 0)).get? b = some o := fun b o q => by
    have hb := Heap.lt_size q
    refine Heap.get?_push_of_some _ ?_
    rw [Heap.get?_update_other _ _ (Nat.ne_of_gt hb)]
    exact Heap.get?_push_of_some _ q
  show wpAny _ _ _ _ _ { s with heap := ((s.heap.push (seqObj "list" #[] 0)).update s.heap.objs.size (Obj.mapSeq (· ++ us.toArray))).push (seqObj "list" us.toArray 0) }
  rw [z]
  refine wpAny_bind (wpAny_holding (wpAny_call_entry slot_list_sort ⟨_, at1, rfl⟩ entry_list_sort ?body (args_list_sort _)))
  case body =>
    refine sort_short (s := { s with heap := ((s.heap.push (seqObj "list" #[] 0)).update s.heap.objs.size (Obj.mapSeq (· ++ us.toArray))).push (seqObj "list" us.toArray 0) }) at1 h2 fun h' c kp e => ⟨_, rfl, ?_⟩
    refine wpAny_pure ⟨_, rfl, h _ h' c (Nat.le_succ _) (fun b o q => kp b o ?_ (old b o q)) e⟩
    exact Nat.ne_of_lt (Nat.lt_succ_of_lt (Heap.lt_size q))
end

/-! ### what was laid while records turned -/
theorem ns_one {h : Heap} {a : Addr} {m m' : Str → Option Value} (x : h.Ns a m) (y : h.Ns a m') : m = m' := by
  obtain ⟨o, es, ep, ho, hd, _, hm⟩ := x
  obtain ⟨o', es', ep', ho', hd', _, hm'⟩ := y
  rw [ho] at ho'
  cases ho'
  rw [hd] at hd'
  cases hd'
  funext z
  rw [← hm z, ← hm' z]
section
variable {X : Cx} {pins : List (Addr × Obj)} {σ : L2.St} {H : Hp} {s : Shared} {h' : Heap}
/-- records of fp have turned, and one new object is tracked -/
theorem turnNew {t' : Nat} {fp : List Addr} {p : Addr} {o : HO} (I : Inv X pins σ H s) (hf : ∀ b ∈ fp, FpOk X pins H b) (k : ∀ b u, b ∉ fp → s.heap.get? b = some u → h'.get? b = some u) (hp : s.heap.objs.size ≤ p)
    (new : ObjOk X.prog X.w (upd H p o) h' p o) : Inv X pins σ (upd H p o) { s with heap := h', toks := t' } := by
  have hn : H p = none := I.hok.fresh hp
  have np : ∀ b u, s.heap.get? b = some u → b ≠ p := fun b u e => Nat.ne_of_lt (Nat.lt_of_lt_of_le (Heap.lt_size e) hp)
  have nt : ∀ b u, H b = some u → b ∉ fp := fun b u e z => by rw [(hf b z).1] at e; cases e
  refine I.step (g' := s.gens) (d' := s.drawn) (ch := fp) (fun b hb => ?_) (fun b ob _ _ hc e _ => k b ob hc e) (fun b ob _ _ hc e _ => ⟨ob.slots, k b ob hc e⟩) (fun b ob _ e n => by rw [upd_ne (np b ob e)]; exact n)
    (fun b ob hc e => ⟨ob, k b ob hc e⟩) (fun b xs e => by rw [upd_ne (ne_of_none e hn)]; exact e) (fun b ob xs e => by rw [upd_ne (ne_of_none e hn)]; exact e) (fun b ps e => ⟨#[], by rw [upd_ne (ne_of_none e hn), e]; simp⟩) (fun m hm => ?_) (fun b u e => ?_) I.bare
  · obtain ⟨_, f1, _, f3, f4, f5⟩ := hf b hb
    exact ⟨f3, f1, f4, f5⟩
  · obtain ⟨ob, es, ep, ho, r⟩ := hm
    exact ⟨ob, es, ep, k _ ob (fun z => (hf _ z).2.1 rfl) ho, r⟩
  · by_cases hb : b = p
    · subst hb
      rw [upd_same] at e
      cases e
      exact new
    · rw [upd_ne hb] at e
      refine (I.hok b u e).stay (fun c v hc q => k c v ?_ q) (fun c q => by rw [upd_ne (ne_of_none q hn)]; exact q) fun c xs q => by rw [upd_ne (ne_of_none q hn)]; exact q
      rcases hc with rfl | hc
      · exact nt c u e
      · exact nt c _ hc
/-- a new object is tracked; of the frame only the names' values are known to stay -/
theorem laidL {t' : Nat} {p : Addr} {o : HO} {m : Str → Option Value} (I : Inv X pins σ H s) (hm : s.heap.Ns X.env.locals m) (hm' : h'.Ns X.env.locals m) (k : ∀ b u, b ≠ X.env.locals → s.heap.get? b = some u → h'.get? b = some u) (hn : H p = none)
    (nf : ∀ b u, s.heap.get? b = some u → H b = none → b ≠ p) (new : ObjOk X.prog X.w (upd H p o) h' p o) : Inv X pins σ (upd H p o) { s with heap := h', toks := t' } := by
  have nL : ∀ b u, H b = some u → b ≠ X.env.locals := fun b u e z => by rw [z, I.free] at e; cases e
  have ths : ∀ b ob, s.heap.get? b = some ob → ∃ o', h'.get? b = some o' := fun b ob e => by
    by_cases hb : b = X.env.locals
    · obtain ⟨ob', _, _, ho, _⟩ := hm'
      exact ⟨ob', by rw [hb]; exact ho⟩
    · exact ⟨ob, k b ob hb e⟩
  refine I.step (g' := s.gens) (d' := s.drawn) (ch := []) (fun _ z => nomatch z) (fun b ob hL _ _ e _ => k b ob hL e) (fun b ob hL _ _ e _ => ⟨ob.slots, k b ob hL e⟩) (fun b ob _ e n => by rw [upd_ne (nf b ob e n)]; exact n)
    (fun b ob _ e => ths b ob e) (fun b xs e => by rw [upd_ne (ne_of_none e hn)]; exact e) (fun b ob xs e => by rw [upd_ne (ne_of_none e hn)]; exact e) (fun b ps e => ⟨#[], by rw [upd_ne (ne_of_none e hn), e]; simp⟩) (fun m2 h2 => ?_) (fun b u e => ?_) I.bare
  · rw [ns_one h2 hm]
    exact hm'
  · by_cases hb : b = p
    · subst hb
      rw [upd_same] at e
      cases e
      exact new
    · rw [upd_ne hb] at e
      refine (I.hok b u e).stay (fun c v hc q => k c v ?_ q) (fun c q => by rw [upd_ne (ne_of_none q hn)]; exact q) fun c xs q => by rw [upd_ne (ne_of_none q hn)]; exact q
      rcases hc with rfl | hc
      · exact nL c u e
      · exact nL c _ hc
end

/-! ### sorted(paths) -/
theorem paired_get {α β : Type} {R : α → β → Prop} : ∀ {xs : List α} {ys : List β} {i : Nat} {x : α} {y : β}, Paired R xs ys → xs[i]? = some x → ys[i]? = some y → R x y
  | _, _, _, _, _, .nil, e, _ => by simp at e
  | _, _, 0, _, _, .cons r _, e, f => by simp at e f; subst e f; exact r
  | _, _, i + 1, _, _, .cons _ t, e, f => paired_get (i := i) t (by simpa using e) (by simpa using f)
theorem paired_length {α β : Type} {R : α → β → Prop} : ∀ {xs : List α} {ys : List β}, Paired R xs ys → xs.length = ys.length
  | _, _, .nil => rfl
  | _, _, .cons _ t => by rw [List.length_cons, List.length_cons, paired_length t]
theorem paired_pick {α β : Type} {R : α → β → Prop} {xs : List α} {ys : List β} {dx : α} {dy : β} (h : Paired R xs ys) : ∀ q : List Nat, (∀ i ∈ q, i < xs.length) → Paired R (q.map fun i => xs.getD i dx) (q.map fun i => ys.getD i dy)
  | [], _ => .nil
  | i :: q, hq => by
    have hi := hq i List.mem_cons_self
    have hl := paired_length h
    refine .cons ?_ (paired_pick h q fun j hj => hq j (List.mem_cons_of_mem _ hj))
    refine paired_get (i := i) h ?_ ?_
    · show xs[i]? = some (xs.getD i dx)
      rw [List.getD_eq_getElem?_getD]; simp [hi]
    · show ys[i]? = some (ys.getD i dy)
      rw [List.getD_eq_getElem?_getD]; simp [← hl, hi]
theorem pick_range {α : Type} (ys : List α) (d : α) : (List.range ys.length).map (fun i => ys.getD i d) = ys := by
  apply List.ext_getElem?
  intro i
  by_cases h : i < ys.length
  · rw [List.getElem?_map, List.getElem?_eq_getElem (show i < (List.range ys.length).length by simpa using h)]
    simp [h]
  · rw [List.getElem?_eq_none_iff.mpr (by simpa using h), List.getElem?_eq_none_iff.mpr (by omega)]
theorem obj_ex {P : Program} {w : World} {H : Hp} {h : Heap} {a : Addr} {o : HO} (x : ObjOk P w H h a o) : ∃ ob, h.get? a = some ob := by
  cases o with
  | lst xs => obtain ⟨_, _, _, _, e⟩ := x; exact ⟨_, e⟩
  | tup xs => obtain ⟨_, _, _, ob, e, _⟩ := x; exact ⟨_, e⟩
  | dK kvs => obtain ⟨_, _, _, _, o, _, _, e, _⟩ := x; exact ⟨_, e⟩
  | dT kvs => obtain ⟨_, _, _, _, o, _, _, e, _⟩ := x; exact ⟨_, e⟩
  | set S n => obtain ⟨o, _, _, _, e, _⟩ := x; exact ⟨_, e⟩
  | ins C dx fs => obtain ⟨_, _, _, e, _⟩ := x; exact ⟨_, e⟩
  | own y => exact x
  | xd fs => obtain ⟨_, ⟨_, _, _, e, _⟩, _⟩ := x; exact ⟨_, e⟩
  | rng lo hi => obtain ⟨_, _, _, e⟩ := x; exact ⟨_, e⟩
  | frz ob u => exact ⟨_, x.1⟩
  | tbl ps => exact ⟨_, x⟩
  | met f y => exact ⟨_, x⟩
  | ext φ => exact x.2.1
def rSorted (K : PySem.W.Frag) : List V → Hp → VK → Prop := fun xs H Q => ∃ (p : Addr) (vs : List V) (ps : List (List Int)) (R : V → List Int → Prop), xs = [.ref p] ∧ SqL K H p vs ∧ Paired R vs ps ∧
  (∀ v q, R v q → ∃ a, v = .ref a ∧ H a = some (.lst (q.map V.int))) ∧ ps.length < 64 ∧ ∀ l vs' ps', H l = none → Paired R vs' ps' → ps'.Perm ps → Rising ps' → Q (.ref l) (upd H l (.lst vs'))
section
variable {X : Cx}
theorem call_sorted (hu : X.A.in1.in1.units < cLine) : CallR X (.builtin "sorted") (rSorted X.K) := by
  intro pins s σ H xs us Q I r h
  obtain ⟨p, vs, ps, R, rfl, hq, hR, hA, h64, k⟩ := h
  obtain ⟨u, rfl, rx⟩ := vals1 r
  cases rx
  obtain ⟨its, rv, pl, hz⟩ := I.list hq
  have hl := rv.length
  have hl2 := paired_length hR
  by_cases h2 : its.length < 2
  · refine sorted_short pl.isList h2 fun D h' c hD kp e => ?_
    refine ⟨.ref D, _, I.laid (t' := s.toks) (o := .lst vs) kp hD ⟨hz, its, c, rv, e⟩, rfl, k D vs ps (I.hok.fresh hD) hR (List.Perm.refl _) ?_⟩
    have : ps.length < 2 := by omega
    match ps, this with
    | [], _ => exact List.Pairwise.nil
    | [_], _ => exact List.pairwise_singleton _ _
    | _ :: _ :: _, z => simp at z <;> omega
  · obtain ⟨m, F⟩ := I.fr
    have hm : s.heap.Ns X.env.locals m := F.ns
    have N : News X.base X.env.locals s.heap (allNews X.base s.heap X.env.locals) := news_all
    -- every item is a tracked list of ints
    have item : ∀ i, i < its.length → ∃ (a : Addr) (ks : List Value) (c : Nat), its.getD i Value.none = .ref a ∧ Vals ((ps.getD i []).map V.int) ks ∧ (a, ({ cls := .type "list", data := .seq ks.toArray c } : Obj)) ∈ allNews X.base s.heap X.env.locals := fun i hi => by
      have e1 : vs[i]? = some vs[i] := by simp [show i < vs.length by omega]
      have e2 : ps[i]? = some (ps.getD i []) := by rw [List.getD_eq_getElem?_getD]; simp [show i < ps.length by omega]
      obtain ⟨a, ea, ha⟩ := hA _ _ (paired_get hR e1 e2)
      obtain ⟨_, ks, c, rk, eo⟩ := I.hok a _ ha
      obtain ⟨u, eu, ru⟩ := rv.get e1
      rw [ea] at ru
      cases ru
      refine ⟨a, ks, c, ?_, rk, mem_allNews (fun z => ?_) ?_ eo⟩
      · rw [List.getD_eq_getElem?_getD, eu]; rfl
      · rw [z, I.free] at ha; cases ha
      · cases q : X.base.get? a with
        | none => rfl
        | some ob => rw [(I.bs a ob q).2] at ha; cases ha
    have item' : ∀ v ∈ its, ∃ (a : Addr) (ob : Obj), v = .ref a ∧ ob.cls = .type "list" ∧ (a, ob) ∈ allNews X.base s.heap X.env.locals := fun v hv => by
      obtain ⟨i, hi, ei⟩ := List.mem_iff_getElem.mp hv
      obtain ⟨a, ks, c, e1, _, e3⟩ := item i hi
      refine ⟨a, _, ?_, rfl, e3⟩
      rw [← e1, List.getD_eq_getElem?_getD]; simp [hi, ei]
    refine PySem.W.kas_sorted (T := .type "list") F N pl.isList (by omega) (by omega) (fun h Fh Nh v hv => ?_) (by decide) fun D e1 h' F' N' hD => ?_
    · obtain ⟨a, ob, rfl, hc, hmem⟩ := item' v hv
      exact PySem.W.kitAt_ty _ h ⟨ob, (Nh _ hmem).1, hc⟩
    · have O : POrd fun i j => HT.lexLt (ps.getD i []) (ps.getD j []) := ⟨fun a => lex_irr _, fun a b c => lex_tr _ _ _, fun a b c => lex_neg _ _ _⟩
      refine kas_sort_ok O (fun i j C hi hj hC => ?_) (by omega) fun q hq hs => ?_
      · obtain ⟨a, ks, c, ea, ra, ma⟩ := item i hi
        obtain ⟨b, ks2, c2, eb, rb, mb⟩ := item j hj
        unfold PySem.W.kas_ask
        rw [keyLt'_oneType, ea, eb]
        exact sortLt_list ⟨_, (N' _ (List.mem_cons_of_mem _ ma)).1, rfl, _, rfl⟩ ⟨_, (N' _ (List.mem_cons_of_mem _ mb)).1, rfl, _, rfl⟩ (intsAre_of ra) (intsAre_of rb) hu hC
      · refine PySem.W.KasFin.intro F' N' (.head fun z hz' => Nat.ne_of_lt (hD z hz')) fun h2' c F2 N2 => ?_
        have hDn : H D = none := by
          cases e : H D with
          | none => rfl
          | some u =>
            obtain ⟨ob, eo⟩ : ∃ ob, s.heap.get? D = some ob := obj_ex (I.hok D u e)
            exact absurd (hD _ (mem_allNews (N' _ List.mem_cons_self).2.1 (N' _ List.mem_cons_self).2.2 eo)) (Nat.lt_irrefl _)
        have hlen : q.size = its.length := hq.size
        have hin : ∀ i ∈ q.toList, i < its.length := fun i hi => by
          have : i ∈ List.toArray (List.range its.length) := (Array.Perm.mem_iff hq).mp (Array.mem_toList_iff.mp hi)
          simpa using this
        have keep : ∀ b u, b ≠ X.env.locals → s.heap.get? b = some u → h2'.get? b = some u := fun b u hb e => by
          cases e2 : X.base.get? b with
          | some ob =>
            have := I.bk b ob e2
            rw [e] at this
            cases this
            exact F2.keep b _ e2
          | none => exact (N2 (b, u) (List.mem_cons_of_mem _ (mem_allNews hb e2 e))).1
        have hperm : (q.toList.map fun i => ps.getD i []).Perm ps := by
          have hp2 : q.toList.Perm (List.range its.length) := by simpa using Array.perm_iff_toList_perm.mp hq
          have := hp2.map fun i => ps.getD i []
          rw [show its.length = ps.length by omega] at this
          exact this.trans (List.Perm.of_eq (pick_range ps []))
        refine ⟨.ref D, _, laidL (s := s) (h' := h2') (t' := s.toks) (o := .lst (q.toList.map fun i => vs.getD i .non)) I hm F2.ns keep hDn (fun b u e n z => ?_) ⟨?_, q.toList.map fun i => its.getD i Value.none, c, ?_, (N2 (D, _) List.mem_cons_self).1⟩, rfl,
          k D _ (q.toList.map fun i => ps.getD i []) hDn (paired_pick hR _ fun i hi => by have := hin i hi; omega) hperm ?_⟩
        · subst z
          exact absurd (hD _ (mem_allNews (N' _ List.mem_cons_self).2.1 (N' _ List.mem_cons_self).2.2 e)) (Nat.lt_irrefl _)
        · rw [List.length_map, Array.length_toList]; omega
        · exact paired_pick rv _ fun i hi => by have := hin i hi; omega
        · refine List.pairwise_map.mpr ?_
          rw [List.pairwise_iff_getElem]
          intro i j hi hj hij
          have := hs i j (Nat.le_of_lt hij) (by rw [Array.length_toList] at hj; omega)
          simpa [ple, pat, show i < q.size by rw [Array.length_toList] at hi; exact hi, show j < q.size by rw [Array.length_toList] at hj; exact hj] using this
end
end TT
namespace TT
open PySem PySem.Spec PyProof.Rows L2

/-! ### a list against the empty one -/
inductive NeER (K : PySem.W.Frag) (x y : V) (H : Hp) (Q : VK) : Prop
  | mk (p q : Addr) (xs : List V) (e : x = .ref p) (e' : y = .ref q) (h : SqL K H p xs) (h' : SqL K H q []) (k : Q (.bl (!xs.isEmpty)) H) : NeER K x y H Q
def rNeE (K : PySem.W.Frag) : R2 := fun x y H Q => NeER K x y H Q
inductive EqER (K : PySem.W.Frag) (x y : V) (H : Hp) (Q : VK) : Prop
  | mk (p q : Addr) (xs : List V) (e : x = .ref p) (e' : y = .ref q) (h : SqL K H p xs) (h' : SqL K H q []) (k : Q (.bl xs.isEmpty) H) : EqER K x y H Q
section
variable {X : Cx}
theorem op_neE (hu : X.A.units < cLine) : OpR X (compareOp .NotEq) (rNeE X.K) := by
  intro pins s σ H x y v u Q I rx ry h
  obtain ⟨p, q, xs, rfl, rfl, hp, hq, k⟩ := h
  cases rx
  cases ry
  obtain ⟨its, r1, l1, _⟩ := I.list hp
  obtain ⟨its2, r2, l2, _⟩ := I.list hq
  have e2 : its2 = [] := r2.zero
  subst e2
  cases xs with
  | nil =>
    have e1 : its = [] := r1.zero
    subst e1
    refine SeqAt.RcNeAt.lists (e := fun _ => true) l1.isList l2.isList rfl hu (fun j h1 _ => absurd h1 (Nat.not_lt_zero j)) X.prog X.w X.xe _ ?_
    exact ⟨.bl false, H, I, rfl, k⟩
  | cons z zs =>
    refine SeqAt.RcNeAt.lists_lengths l1.isList l2.isList ?_ hu X.prog X.w X.xe _ ⟨.bl true, H, I, rfl, k⟩
    have := r1.length
    simp only [List.length_cons] at this
    simp only [List.size_toArray, List.length_nil, bne_iff_ne]
    omega
/-! ### isinstance -/
inductive IsiR (K : PySem.W.Frag) (xs : List V) (H : Hp) (Q : VK) : Prop
  | mk (x : V) (n : String) (t : Value) (b : Bool) (e : xs = [x, .ty n]) (ty : TyOf K H x t) (h : PySem.W.kitOne K t (.type n) = some b) (k : Q (.bl b) H) : IsiR K xs H Q
def rIsi (K : PySem.W.Frag) : List V → Hp → VK → Prop := fun xs H Q => IsiR K xs H Q
theorem call_isi : CallR X (.builtin "isinstance") (rIsi X.K) := by
  intro pins s σ H xs us Q I r h
  obtain ⟨x, n, t, b, rfl, ty, e, k⟩ := h
  obtain ⟨u, w', rfl, r1, r2⟩ := vals2 r
  cases (show w' = Value.type n from r2)
  exact isinst_ok I r1 ty e fun tk => ⟨.bl b, H, I.tok tk, rfl, k⟩
/-- .. with a tuple of two classes -/
inductive Isi2R (K : PySem.W.Frag) (xs : List V) (H : Hp) (Q : VK) : Prop
  | mk (x : V) (tp : Addr) (n n' : String) (t : Value) (b : Bool) (e : xs = [x, .ref tp]) (htp : H tp = some (.tup [.ty n, .ty n'])) (ty : TyOf K H x t) (h : PySem.W.kitAny K t [.type n, .type n'] = some b) (k : Q (.bl b) H) : Isi2R K xs H Q
def rIsi2 (K : PySem.W.Frag) : List V → Hp → VK → Prop := fun xs H Q => Isi2R K xs H Q
theorem call_isi2 : CallR X (.builtin "isinstance") (rIsi2 X.K) := by
  intro pins s σ H xs us Q I r h
  obtain ⟨x, tp, n, n', t, b, rfl, htp, ty, e, k⟩ := h
  obtain ⟨u, w', rfl, r1, r2⟩ := vals2 r
  cases (show w' = Value.ref tp from r2)
  obtain ⟨_, its, ri, ob, eo, ec, m, ed⟩ := I.hok tp _ htp
  obtain ⟨c, dd, dt, sl⟩ := ob
  simp only at ec ed
  subst ec ed
  obtain ⟨y1, y2, rfl, q1, q2⟩ := ri.two
  cases (show y1 = Value.type n from q1)
  cases (show y2 = Value.type n' from q2)
  have fin : ∀ tk, EP X pins σ Q (.bool b) { s with toks := tk } := fun tk => ⟨.bl b, H, I.tok tk, rfl, k⟩
  cases ty with
  | non => cases (show u = Value.none from r1); exact PySem.W.kia_tup PySem.W.kitx_none I.kIn True.intro eo e (fun z => nomatch z) fin
  | bl y => cases (show u = Value.bool y from r1); exact PySem.W.kia_tup PySem.W.kitx_bool I.kIn True.intro eo e (fun z => nomatch z) fin
  | int i => obtain ⟨t, q⟩ := (show ∃ t, u = Value.int i t from r1); cases q; exact PySem.W.kia_tup PySem.W.kitx_int I.kIn True.intro eo e (fun z => nomatch z) fin
  | str y => obtain ⟨t, q⟩ := (show ∃ t, u = Value.str y t from r1); cases q; exact PySem.W.kia_tup PySem.W.kitx_str I.kIn True.intro eo e (fun z => nomatch z) fin
  | flt y => obtain ⟨t, q⟩ := (show ∃ t, u = Value.float y t from r1); cases q; exact PySem.W.kia_tup PySem.W.kitx_float I.kIn True.intro eo e (fun z => nomatch z) fin
  | @lst a zs ea =>
    cases (show u = Value.ref a from r1)
    obtain ⟨_, _, m2, _, h1⟩ := (show ObjOk X.prog X.w H s.heap a (.lst zs) from I.hok a _ ea)
    exact PySem.W.kia_tup PySem.W.kitx_list I.kIn ⟨_, h1, rfl⟩ eo e (fun z => nomatch z) fin
  | @frz a ob zs ea =>
    cases (show u = Value.ref a from r1)
    obtain ⟨_, _, _, m2, _, h1⟩ := (show ObjOk X.prog X.w H s.heap a (.frz ob (.lst zs)) from I.hok a _ ea)
    exact PySem.W.kia_tup PySem.W.kitx_list I.kIn ⟨_, h1, rfl⟩ eo e (fun z => nomatch z) fin
  | @tup a zs ea =>
    cases (show u = Value.ref a from r1)
    obtain ⟨_, _, _, p⟩ := (show ObjOk X.prog X.w H s.heap a (.tup zs) from I.hok a _ ea)
    obtain ⟨o, h1, h2, _⟩ := p
    exact PySem.W.kia_tup PySem.W.kitx_tuple I.kIn ⟨o, h1, h2⟩ eo e (fun z => nomatch z) fin
  | @dK a kvs ea =>
    cases (show u = Value.ref a from r1)
    obtain ⟨_, _, vs, _, p⟩ := (show ObjOk X.prog X.w H s.heap a (.dK kvs) from I.hok a _ ea)
    obtain ⟨o, es, ep, h1, h2, _⟩ := p
    exact PySem.W.kia_tup PySem.W.kitx_dict I.kIn ⟨o, h1, h2.1⟩ eo e (fun z => nomatch z) fin
  | @dT a kvs ea =>
    cases (show u = Value.ref a from r1)
    obtain ⟨_, _, zs, _, o, es, ep, h1, h2, _⟩ := (show ObjOk X.prog X.w H s.heap a (.dT kvs) from I.hok a _ ea)
    exact PySem.W.kia_tup PySem.W.kitx_dict I.kIn ⟨o, h1, h2.1⟩ eo e (fun z => nomatch z) fin
  | @ins a C dx fs ea cl ha hn htk hm =>
    cases (show u = Value.ref a from r1)
    obtain ⟨mA, O, _⟩ := ins_get I.hok ea
    obtain ⟨od, J, _⟩ := O.look
    exact PySem.W.kia_tup (PySem.W.kitx_own (cl.get _) cl.hd ha hn htk hm) I.kIn J eo e (fun z => nomatch z) fin

/-! ### sum -/
/-! ### for .. in enumerate(list) -/
def Ite (K : PySem.W.Frag) (a : Addr) : It :=
  ⟨fun i H => ∃ xs x, SqL K H a xs ∧ xs[i]? = some x, fun i H v H' => ∃ p x, H p = none ∧ v = .ref p ∧ H' = upd H p (.tup [.int i, x]) ∧ ∀ xs, SqL K H a xs → xs[i]? = some x, fun i H => ∃ xs, SqL K H a xs ∧ xs.length ≤ i⟩
theorem turn_enum {P : Program} {w : World} {K : PySem.W.Frag} {es : List Expr} {kk : Nat} {tp : Pos} (a e it : Addr) (hei : e ≠ it) :
    Turn P w K (.Tuple es kk tp) (Ite K a) [e, it] e (fun i h => (∃ old, IsEnum h e it ((i : Nat) : Int) old) ∧ h.IsListIter it a i) where
  mem := by simp
  obj := fun i h st b hb => by
    obtain ⟨⟨old, he⟩, hi⟩ := st
    rcases List.mem_cons.mp hb with rfl | hb
    · exact ⟨_, he, fun v z => nomatch z⟩
    · have eb : b = it := by simpa using hb
      subst eb
      obtain ⟨o, e1, c, d⟩ := hi
      exact ⟨o, e1, fun v z => by rw [d] at z; cases z⟩
  keep := fun i h h' st k => ⟨let ⟨old, he⟩ := st.1; ⟨old, k e (by simp) _ he⟩, st.2.at fun o q => k it (by simp) o q⟩
  item := by
    intro X hP hw hK hc i pins s σ H E I hf st hg
    subst hP hw hK
    obtain ⟨xs, x, hq, hx⟩ := hg
    obtain ⟨⟨old, he⟩, hi⟩ := st
    obtain ⟨its, rv, pl, hz⟩ := I.list hq
    obtain ⟨u, hu, ru⟩ := rv.get hx
    have hn : H s.heap.objs.size = none := I.fresh
    refine wpAny_pyNext_enum_item he hi pl.isList (x := u) (by simpa using hu) hei fun h' heo hi' ht' hsz' kp => ⟨_, rfl, ?_⟩
    refine wpAny_letOwnedTupleGo_enum (s := { s with heap := h', toks := s.toks + 1 }) heo fun h2 he2 hs2 => ?_
    have hs3 : Heap.SameBut e h' h2 := hs2
    have lt : ∀ b ∈ [e, it], b < s.heap.objs.size := fun b hb => by
      rcases List.mem_cons.mp hb with rfl | hb
      · exact Heap.lt_size he
      · have eb : b = it := by simpa using hb
        subst eb
        obtain ⟨o, e1, _⟩ := hi
        exact Heap.lt_size e1
    have ht2 : h2.get? s.heap.objs.size = some { cls := .type "tuple", data := .seq #[.int i s.toks, u] } := (hs3.2 _ (Nat.ne_of_gt (lt e (by simp)))).trans ht'
    refine ⟨.ref s.heap.objs.size, upd H s.heap.objs.size (.tup [.int i, x]), turnNew (s := s) (h' := h2) (t' := s.toks + 1) (fp := [e, it]) I hf (fun b ob hb q => ?_) (Nat.le_refl _) ⟨by show 2 ≤ sizeLine; decide, [.int i s.toks, u], .cons ⟨_, rfl⟩ (.cons ru .nil), ⟨_, ht2, rfl, _, rfl⟩⟩, rfl,
      ⟨_, x, hn, rfl, rfl, fun ys hy => by rw [I.list_inj hy hq]; exact hx⟩, ⟨⟨u, he2⟩, ?_⟩, fun b hb => ?_⟩
    · have h1 : b ≠ e := fun z => hb (by simp [z])
      have h3 : b ≠ it := fun z => hb (by simp [z])
      exact (hs3.2 b h1).trans (kp b ob h1 h3 q)
    · exact hi'.extBut hs3.extBut (Ne.symm hei)
    · rw [upd_ne (Nat.ne_of_lt (lt b hb))]
      exact (hf b hb).1
  done := by
    intro X hP hw hK hc i pins s σ H E I hf st hg
    subst hP hw hK
    obtain ⟨xs, hq, hx⟩ := hg
    obtain ⟨⟨old, he⟩, hi⟩ := st
    obtain ⟨its, rv, pl, hz⟩ := I.list hq
    obtain ⟨f0, f1, f2, f3, f4, f5⟩ := hf it (by simp)
    have hl := rv.length
    exact wpAny_pyNext_enum_end (I.ok.hd hc) he hi pl.isList (by simp; omega) fun h' eb => ⟨rfl, I.turned (t' := s.toks) (fun b o hb q => eb b o hb q) f0 f1 f3 f4 f5⟩
  self := fun _ _ _ _ _ st h => let ⟨_, he⟩ := st.1; wpAny_pyIter_enum he h
def iEnum (K : PySem.W.Frag) (ta : TA) : TI := fun σ H R => ta σ H fun vs H1 => ∃ a, vs = [.ref a] ∧ (∃ xs, SqL K H1 a xs) ∧ R (Ite K a) H1
theorem pi_enum {a : Expr} {ta : TA} {es : List Expr} {kk : Nat} {tp p pos : Pos} (hg : Gl X "enumerate") (hm : X.mg "enumerate" = none) (ha : PA X [a] ta) (hs : starEach [a] X.env = [(false, eval a X.env)] := by rfl) :
    PI X (.Tuple es kk tp) (.Call (.Name "enumerate" p) [a] [] pos) (iEnum X.K ta) := by
  intro pins s σ H R I h
  refine Call_ (ld_blt I hg hm boot_enumerate (PyProof.Rows.callWith_type1 (thn (ha pos pins s σ H _ I h) fun us s1 ⟨vs, H1, I1, r1, q1⟩ => ?_) hs rfl))
  obtain ⟨b, rfl, ⟨xs, hq⟩, q⟩ := q1
  obtain ⟨u, rfl, rx⟩ := vals1 r1
  cases rx
  obtain ⟨its, rv, pl, hz⟩ := I1.list hq
  refine call_enumerate_list pl.isList fun h' he hi hsz kp => ?_
  have I2 : Inv X pins σ H1 { s1 with heap := h' } := I1.kept (t' := s1.toks) kp
  refine wpAny_pyIter_enum (s := { s1 with heap := h' }) he ⟨s1.heap.objs.size + 1, [s1.heap.objs.size + 1, s1.heap.objs.size], _, _, H1, rfl, I2, turn_enum b _ _ (Nat.succ_ne_self _), ⟨⟨_, he⟩, hi⟩, fun c hc => ?_, q⟩
  have hc' : s1.heap.objs.size ≤ c := by
    rcases List.mem_cons.mp hc with rfl | hc
    · exact Nat.le_succ _
    · have : c = s1.heap.objs.size := by simpa using hc
      exact Nat.le_of_eq this.symm
  exact I1.fpOk hc' (I1.hok.fresh hc')
/-- over enumerate of a list that the body leaves as it is; each turn's pair is new -/
theorem for_enum {K : PySem.W.Frag} {a : Addr} {xs : List V} {g : TG} {tb : TS} {De : Ends} {σ : L2.St} {H : Hp} (Pv : Nat → L2.St → Hp → Prop) (h0 : Pv 0 σ H) (hl : ∀ i σ H, i ≤ xs.length → Pv i σ H → SqL K H a xs)
    (hs : ∀ i x σ H p, xs[i]? = some x → Pv i σ H → H p = none → g (.ref p) σ (upd H p (.tup [.int i, x])) fun σ2 H2 => tb { De with nx := Pv (i + 1), ct := Pv (i + 1), bk := De.nx } σ2 H2) (hd : ∀ σ H, Pv xs.length σ H → De.nx σ H) :
    ∃ W : Nat → Nat → L2.St → Hp → Prop, (∃ m, W 0 m σ H) ∧ ∀ i m σ H, W i m σ H →
      ((Ite K a).stop i H ∧ De.nx σ H) ∨ ((Ite K a).go i H ∧ ∃ N : L2.St → Hp → Prop, (∀ σ' H', N σ' H' → ∃ m', m' < m ∧ W (i + 1) m' σ' H') ∧ ∀ x H', (Ite K a).yld i H x H' → g x σ H' fun σ2 H2 => tb { De with nx := N, ct := N, bk := De.nx } σ2 H2) := by
  refine ⟨fun i m σ H => m = xs.length - i ∧ i ≤ xs.length ∧ Pv i σ H, ⟨xs.length, by simp, Nat.zero_le _, h0⟩, ?_⟩
  rintro i m σ H ⟨rfl, hi, p⟩
  have q := hl i σ H hi p
  by_cases hlt : i < xs.length
  · refine .inr ⟨⟨xs, xs[i], q, by simp [hlt]⟩, Pv (i + 1), fun σ' H' p' => ⟨xs.length - (i + 1), by omega, rfl, hlt, p'⟩, fun x H' y => ?_⟩
    obtain ⟨b, z, hb, rfl, rfl, hz⟩ := y
    exact hs i z σ H b (hz xs q) p hb
  · have e : i = xs.length := by omega
    subst e
    exact .inl ⟨⟨xs, q, Nat.le_refl _⟩, hd σ H p⟩
end
end TT
namespace TT
open PySem PySem.Spec PyProof.Rows L2

/-! ### a list comprehension with one clause and no test, whose block captures nothing -/
def compX (X : Cx) (scope : Scope) (C : Addr) (N : List Str) (s2 : Shared) (H2 : Hp) (fp : List Addr) : Cx :=
  { X with N := N, s₀ := s2, H₀ := H2, env := compEnvC scope [] C X.env, outer := X.stack, stack := X.stack, ex := fp, fn := fun _ => false, pn := [], xe := fun _ _ => False }
/-- J: what is walked; acc: the list that is made; n: the block's names -/
def tComp (wi : TI) (g : TG) (te : TE) (n : Nat) : TE := fun σ H Q => wi σ H fun J H1 => ∀ acc, H1 acc = none → ∃ W : Nat → Nat → Hp → List V → Prop, (∃ m, W 0 m (upd H1 acc (.lst [])) []) ∧
  ∀ i m H2 ys, W i m H2 ys → H2 acc = some (.lst ys) → (J.stop i H2 ∧ Q (.ref acc) H2) ∨ (J.go i H2 ∧ ys.length < sizeLine ∧ ∀ x H3, J.yld i H2 x H3 → g x (List.replicate n none) H3 fun σ2 H4 => te σ2 H4 fun y H5 =>
    H5 acc = some (.lst ys) ∧ ∃ m', m' < m ∧ W (i + 1) m' (upd H5 acc (.lst (ys ++ [y]))) (ys ++ [y]))
section
variable {X : Cx}
theorem compOk {pins : List (Addr × Obj)} {σ : L2.St} {H : Hp} {s : Shared} {scope : Scope} {C : Addr} {N : List Str} {fp : List Addr} (I : Inv X pins σ H s) (hc : X.calm = true) (hkind : scope.kind = .function) (hfree : ∀ y ∈ scope.names, y.2 ≠ .free) (hcell : ∀ y ∈ scope.names, y.2 ≠ .cell)
    (hC : s.heap.objs.size ≤ C) (hf : ∀ b ∈ fp, FpOk X pins H b) (hlt : ∀ b ∈ fp, b < s.heap.objs.size) : (compX X scope C N s H fp).Ok where
  mod := I.ok.mod
  kind := hkind
  glob := I.ok.glob
  blt := I.ok.blt
  above := hC
  inj := fun x y c e _ => nomatch e
  has := fun x hx => by
    have none_of : ∀ (l : List (Str × NameKind)) (k : NameKind), (∀ y ∈ l, y.2 ≠ .free) → (∀ y ∈ l, y.2 ≠ .cell) →
        (l.map fun (n, k) => if (k == NameKind.free && X.env.scope.kind == .function && X.env.kindOf n == some .cell) then (n, NameKind.cell) else (n, k)).lookup x = some k → k ≠ .cell ∧ k ≠ .free := by
      intro l
      induction l with
      | nil => intro k _ _ e; simp at e
      | cons p l ih =>
        intro k h1 h2 e
        obtain ⟨n, kn⟩ := p
        have hn1 : kn ≠ .free := h1 (n, kn) List.mem_cons_self
        have hn2 : kn ≠ .cell := h2 (n, kn) List.mem_cons_self
        have eb : (kn == NameKind.free) = false := by simpa using hn1
        rw [List.map_cons, List.lookup_cons] at e
        simp only [eb, Bool.false_and, Bool.false_eq_true, if_false] at e
        cases hx : x == n with
        | true =>
          rw [hx] at e
          simp only at e
          cases e
          exact ⟨hn2, hn1⟩
        | false =>
          rw [hx] at e
          exact ih k (fun y hy => h1 y (List.mem_cons_of_mem _ hy)) (fun y hy => h2 y (List.mem_cons_of_mem _ hy)) e
    rcases hx with e | e
    · exact absurd rfl (none_of _ _ hfree hcell e).1
    · exact absurd rfl (none_of _ _ hfree hcell e).2
  cab := fun x c e _ => nomatch e
  hd := fun _ => I.ok.hd hc
  frames := I.ok.frames
  stk := .inl rfl
  exf := fun b hb => ⟨Nat.ne_of_lt (Nat.lt_of_lt_of_le (hlt b hb) hC), (fun x c e => (nomatch e))⟩
  bs := I.bs
  bsz := Nat.le_trans I.ok.bsz I.sz
  noex := fun b o e hb => by
    rcases (hf b hb).2.2.2.1 with z | z
    · exact I.ok.noex b o e z
    · exact absurd (Nat.lt_of_lt_of_le (Heap.lt_size e) (Nat.le_trans I.ok.bsz z)) (Nat.lt_irrefl _)
  exfs := fun b hb z => by
    rcases List.mem_cons.mp (I.stkSub b z) with e | z
    · exact (hf b hb).2.1 e
    · exact (hf b hb).2.2.1 z
  funs := I.stack
  frf := I.stkFree
theorem pe_comp {elt tg iter : Expr} {scope : Scope} {pos : Pos} {N : List Str} {wi : TI} {g : TG} {te : TE} (hc : X.calm = true) (hi : PI X tg iter wi) (hfree : ∀ y ∈ scope.names, y.2 ≠ .free) (hcell : ∀ y ∈ scope.names, y.2 ≠ .cell) (hkind : scope.kind = .function)
    (hnames : ∀ y ∈ scope.names, y.2 = .local → scope.names.lookup y.1 = some .local) (hg : ∀ C s2 H2 fp, PG (compX X scope C N s2 H2 fp) tg g) (he : ∀ C s2 H2 fp, PE (compX X scope C N s2 H2 fp) elt te)
    (hs : ∀ x, foldedSetIterable iter X.env x = pure x := by intro _; rfl) : PE X (.ListComp elt [⟨tg, iter, [], 0⟩] scope pos) (tComp wi g te N.length) := by
  intro pins s σ H Q I h
  rw [eval_ListComp]
  refine wpAny_comprehension_free (cl := []) (use := none) rfl hs (closureFor_none hfree) hkind hnames (thn (hi pins s σ H _ I h) fun v s1 h1 => thn h1 fun itv s2 h2 => ?_)
  obtain ⟨it, fp, tn, J, H2, rfl, I2, T, st2, f2, q⟩ := h2
  have hlt : ∀ b ∈ fp, b < s2.heap.objs.size := fun b hb => let ⟨o, e, _⟩ := T.obj _ _ st2 b hb; Heap.lt_size e
  refine wpAny_newObj_type (wpAny_newFunctionEnv hcell (by intro y hy; simp at hy) (fun h1 hns hsb => ?_) hkind)
  obtain ⟨W, ⟨m0, w0⟩, turn⟩ := q s2.heap.objs.size I2.fresh
  have hCs : (s2.heap.push { cls := .type "list", dict := none, data := .seq ([] : List Value).toArray }).objs.size = s2.heap.objs.size + 1 := Heap.size_push ..
  dsimp only at hns hsb ⊢
  generalize hC : (s2.heap.push { cls := .type "list", dict := none, data := .seq ([] : List Value).toArray }).objs.size = C at hns hsb hCs ⊢
  have leC : s2.heap.objs.size ≤ C := by omega
  have old : ∀ b o, s2.heap.get? b = some o → h1.get? b = some o := fun b o e => by
    have hb := Heap.lt_size e
    exact hsb.extBut b o (Nat.ne_of_lt (Nat.lt_of_lt_of_le hb leC)) (Heap.get?_push_of_some _ (Heap.get?_push_of_some _ e))
  have accAt : h1.get? s2.heap.objs.size = some { cls := .type "list", dict := none, data := .seq ([] : List Value).toArray } :=
    hsb.extBut _ _ (Nat.ne_of_lt (by omega)) (Heap.get?_push_of_some _ (Heap.get?_push_size _ rfl))
  have hCn : H2 C = none := I2.hok.fresh leC
  have ok0 := compOk (N := N) (C := C) I2 hc hkind hfree hcell leC f2 hlt
  have I4 : Inv (compX X scope C N s2 H2 fp) [] (List.replicate N.length none) (upd H2 s2.heap.objs.size (.lst [])) { s2 with heap := h1, toks := s2.toks + ([] : List (Str × Value)).length } := by
    refine ⟨ok0, rfl, I2.bare, Un.laid old (Nat.le_refl _) I2.fresh, ⟨_, hns, fun i x v _ e => ?_⟩, (fun x c e => (nomatch e)), ?_, (fun x c e => (nomatch e)), (fun p hp => (nomatch hp)), ?_, ?_⟩
    · exfalso
      rw [List.getElem?_replicate] at e
      split at e <;> simp at e
    · show upd H2 s2.heap.objs.size (.lst []) C = none
      rw [upd_ne (Nat.ne_of_gt (by omega))]
      exact hCn
    · exact I2.hok.laid old (Nat.le_refl _) ⟨Nat.zero_le _, [], 0, .nil, accAt⟩
    · simp [compX]
  have st4 : tn 0 h1 := T.keep _ _ _ st2 fun b _ o e => old b o e
  have fr4 : ∀ b ∈ fp, upd H2 s2.heap.objs.size (.lst []) b = none := fun b hb => by
    rw [upd_ne (Nat.ne_of_lt (hlt b hb))]
    exact (f2 b hb).1
  have stat : ∀ {pn : List (Addr × Obj)} {H' : Hp}, (∀ p ∈ pn, p.1 ∉ fp) → (∀ b ∈ fp, H' b = none) → ∀ b ∈ fp, FpOk (compX X scope C N s2 H2 fp) pn H' b := fun hpn hn b hb =>
    ⟨hn b hb, Nat.ne_of_lt (Nat.lt_of_lt_of_le (hlt b hb) leC), ok0.exfs b hb, .inl hb, (fun x c e => (nomatch e)), fun p hp z => hpn p hp (z ▸ hb)⟩
  have loop : ∀ s4 : Shared, s4 = { s2 with heap := h1, toks := s2.toks + ([] : List (Str × Value)).length } →
      codeAny (model X.prog X.w) X.A (.compLoop (.ListComp elt [⟨tg, iter, [], 0⟩] scope pos) 0 (.ref it) (.ref s2.heap.objs.size) (compEnvC scope [] C X.env))
        (compPost (model X.prog X.w) X.A X.xe none (EP X pins σ Q) (.ref s2.heap.objs.size) C) s4 := by
    rintro s4 rfl
    refine codeAny_loop rfl (fun n s' => ∃ i σ' H' ys, Inv (compX X scope C N s2 H2 fp) [] σ' H' s' ∧ tn i s'.heap ∧ (∀ b ∈ fp, H' b = none) ∧ H' s2.heap.objs.size = some (.lst ys) ∧ W i n H' ys) ?_ m0 ⟨0, _, _, [], I4, st4, fr4, upd_same, w0⟩
    rintro n s' ⟨i, σ', H', ys, I', st', fr', ha', w'⟩
    show wpAny _ _ ((compTurn (.ListComp elt [⟨tg, iter, [], 0⟩] scope pos) 0 (.ref it) (.ref s2.heap.objs.size) (compEnvC scope [] C X.env)).onRaise (fun x => do noteFrame x (compEnvC scope [] C X.env); theTreesLotGoes x)) _ _ s'
    refine wpAny_noted ?_
    rw [compTurn_list1]
    refine wpAny_bind (wpAny_standAt (wpAny_bind ?_))
    rcases turn i n H' ys w' ha' with ⟨stop, qn⟩ | ⟨go, hz, step⟩
    · refine thn (T.done (compX X scope C N s2 H2 fp) rfl rfl rfl hc i [] s' σ' H' _ I' (stat ((fun p hp => (nomatch hp))) fr') st' stop) fun r s5 ⟨hr, I5⟩ => ?_
      subst hr
      refine wpAny_pure ?_
      obtain ⟨m5, hn5, _⟩ := I5.loc
      refine ⟨m5, hn5, fun h' sb => ?_⟩
      have sb' : Heap.SameBut C s5.heap h' := sb
      have up : ∀ b o, s2.heap.get? b = some o → ∀ o', s5.heap.get? b = some o' → h'.get? b = some o' := fun b o e o' e' => (sb'.2 b (Nat.ne_of_lt (Nat.lt_of_lt_of_le (Heap.lt_size e) leC))).trans e'
      have u5 := I5.base
      have un : Un (frs X.stack) fp H2 H' s2.heap h' :=
        ⟨fun b o e n hb hx => up b o e _ (u5.keep b o e n hb hx), fun b o e n hb hx => let ⟨sl, z⟩ := u5.slot b o e n hb hx; ⟨sl, up b o e _ z⟩, u5.free, fun b o e hx => let ⟨o', z⟩ := u5.there b o e hx; ⟨o', up b o e _ z⟩, u5.tups, u5.frzs, u5.tbls⟩
      have hok5 : HOk X.prog X.w H' h' := fun b u e => by
        have nC : ∀ c v, H' c = some v → c ≠ C := fun c v z e2 => by
          have : H' C = none := I5.free
          rw [e2, this] at z
          cases z
        refine (I5.hok b u e).stay (fun c v hcc z => (sb'.2 c ?_).trans z) (fun _ z => z) fun _ _ z => z
        rcases hcc with rfl | hcc
        · exact nC c u e
        · exact nC c _ hcc
      have fin : Inv X pins σ H' { s5 with heap := h' } := I2.call' (s' := { s5 with heap := h' }) (ch := fp) I5.os un hok5 I5.bare fun b hb => let ⟨_, g1, _, g3, g4, g5⟩ := f2 b hb; ⟨g3, g1, g4, g5⟩
      exact ⟨.ref s2.heap.objs.size, H', fin, rfl, qn⟩
    · refine thn (T.item (compX X scope C N s2 H2 fp) rfl rfl rfl hc i [] s' σ' H' _ I' (stat ((fun p hp => (nomatch hp))) fr') st' go) fun r s5 ⟨u, hr, h5⟩ => ?_
      subst hr
      refine wpAny_bind (thn h5 fun _ s6 ⟨x, H6, I6, r6, y6, st6, fr6⟩ => ?_)
      have I6' := (I6.weak (σ' := List.replicate N.length none) (by rw [List.length_replicate]; exact I6.len.symm) (fun j v e => by
        exfalso
        rw [List.getElem?_replicate] at e
        split at e <;> simp at e)).pinned (stat ((fun p hp => (nomatch hp))) fr6) (T.obj _ _ st6)
      refine wpAny_bind (wpAny_mono (hg C s2 H2 fp _ s6 _ H6 x u _ I6' r6 (step x H6 y6)) (fun _ s7 ⟨σ7, H7, I7, q7⟩ => ?_) fun _ _ z => False.elim z)
      refine wpAny_bind (wpAny_bind (wpAny_mono (he C s2 H2 fp _ s7 σ7 H7 _ I7 q7) (fun v8 s8 ⟨y, H8, I8, r8, ha8, m8, hm8, w8⟩ => ?_) fun _ _ z => False.elim z))
      refine wpAny_bind (wpAny_mono (mt_append (X := compX X scope C N s2 H2 fp) _ s8 σ7 H8 (.ref s2.heap.objs.size) [y] _ [v8] (fun _ H9 => H9 = upd H8 s2.heap.objs.size (.lst (ys ++ [y]))) I8 rfl (.cons r8 .nil) ⟨_, ys, y, rfl, rfl, ha8, hz, rfl⟩) (fun _ s9 ⟨_, H9, I9, _, e9⟩ => ?_) fun _ _ z => False.elim z)
      subst e9
      refine wpAny_pure (wpAny_pure ⟨rfl, m8, hm8, i + 1, σ7, _, ys ++ [y], I9.unpinned, T.keep _ _ _ st6 fun b hb o e => (I9.pin (b, o) (List.mem_append_right _ (List.mem_append_right _ (mem_pinsAt hb e)))).1, fun b hb => ?_, upd_same, w8⟩)
      obtain ⟨o, e, _⟩ := T.obj _ _ st6 b hb
      exact (I9.pin (b, o) (List.mem_append_right _ (List.mem_append_right _ (mem_pinsAt hb e)))).2.1
  exact codeAny_compStart_list (loop _ rfl) (T.self _ 0 _ _ _ st4 (loop _ rfl))
end
end TT
namespace TT
open PySem PySem.Spec PyProof.Rows L2

/-! ### a def of the text with its promise, called -/
structure Ok1 (P : Program) (w : World) (K : PySem.W.Frag) (mg : Str → Option Value) (base : Heap) (k : Nat) (x : Str) (ps : List Str) (sp : Sp) : Prop where
  ex : ∃ (f : Addr) (fd : FuncData), FnOk P w K mg base CX0 k f fd ps sp ∧ mg x = some (.ref f) ∧ PySem.W.keepIn K (.ref f) = true ∧ Binds K fd ps []
theorem pe_fn {X : Cx} {k : Nat} {x : Str} {ps : List Str} {sp : Sp} {e : Expr} {es : List Expr} {t : TA} {p pos : Pos} (F : Ok1 X.prog X.w X.K X.mg X.base k x ps sp) (hr : Room k X.A) (hg : Gl X x) (ha : PA X (e :: es) t)
    (hdb : (x == ("__debug__" : Str)) = false := by decide) (he : starEach (e :: es) X.env = (false, eval e X.env) :: starEach es X.env := by rfl) (hpl : (backTo pos (starEach es X.env)).any (·.1) = false := by rfl) :
    PE X (.Call (.Name x p) (e :: es) [] pos) (tCall sp [] E0 t) := by
  obtain ⟨f, fd, F, hm, hk, hb⟩ := F.ex
  exact pe_call F hr hg hm hk hb .nil pass0 ha hdb he hpl

/-! ### heaps that grow by what is dropped again -/
section
variable {G H : Hp} {p : Addr} {o : HO}
theorem Ext.tmp (s : Same G H) (n : H p = none) : Ext G H G (upd H p o) := ⟨Same.refl G, s.trans (same_upd n), same_upd n, fun _ _ _ => rfl⟩
end

/-! ### slices -/
theorem cut_from (xs : List V) (k : Nat) : cutV xs (some (k : Int)) none = xs.drop k := by
  unfold cutV
  rw [HT.sIx_nat, HT.sIx_none]
  by_cases h : k ≤ xs.length
  · rw [Nat.min_eq_left h, List.take_of_length_le (by rw [List.length_drop]; exact Nat.le_refl _)]
  · rw [Nat.min_eq_right (by omega), Nat.sub_self, List.take_zero, List.drop_of_length_le (by omega)]
theorem cut_to (xs : List V) (k : Nat) : cutV xs none (some (k : Int)) = xs.take k := by
  unfold cutV
  rw [HT.sIx_nat, HT.sIx_none, List.drop_zero, Nat.sub_zero]
  by_cases h : k ≤ xs.length
  · rw [Nat.min_eq_left h]
  · rw [Nat.min_eq_right (by omega), List.take_of_length_le (Nat.le_refl _), List.take_of_length_le (by omega)]
theorem cut_last (xs : List V) : cutV xs (some (-1)) none = xs.drop (xs.length - 1) := by
  unfold cutV
  rw [HT.sIx_none, show HT.sIx xs.length 0 (some (-1)) = xs.length - 1 from by
    show (if (-1 : Int) < 0 then ((-1 : Int) + (xs.length : Int)).toNat else min (-1 : Int).toNat xs.length) = xs.length - 1
    rw [if_pos (by decide)]; omega]
  exact List.take_of_length_le (by rw [List.length_drop]; exact Nat.le_refl _)
theorem cut_front (xs : List V) : cutV xs none (some (-1)) = xs.take (xs.length - 1) := by
  unfold cutV
  rw [HT.sIx_none, show HT.sIx xs.length xs.length (some (-1)) = xs.length - 1 from by
    show (if (-1 : Int) < 0 then ((-1 : Int) + (xs.length : Int)).toNat else min (-1 : Int).toNat xs.length) = xs.length - 1
    rw [if_pos (by decide)]; omega, List.drop_zero, Nat.sub_zero]
theorem line_big : (1000000 : Nat) ≤ sizeLine := by decide
/-- t[1:] of a tree -/
theorem kids_cut (m : Str) (kv : List V) : cutV (.str m :: kv) (some 1) none = kv := cut_from (.str m :: kv) 1
theorem kids_not (m : Str) (kv : List V) : ¬ (HT.sIx (V.str m :: kv).length 0 (some 1) = 0 ∧ HT.sIx (V.str m :: kv).length (V.str m :: kv).length none = (V.str m :: kv).length) := by
  rintro ⟨h, _⟩
  have : HT.sIx (V.str m :: kv).length 0 (some ((1 : Nat) : Int)) = min 1 (V.str m :: kv).length := HT.sIx_nat _ _ _
  rw [show ((1 : Nat) : Int) = 1 from rfl] at this
  rw [this] at h
  simp at h
end TT
namespace TT
open PySem PySem.Spec PyProof.Rows L2
/-! ### an if both of whose ways go on: what holds behind it is said once -/
def tIfM (c : TT) (t u : TS) : TS := fun De σ H => ∃ N : L2.St → Hp → Prop, (c σ H fun b H1 => if b = true then t { De with nx := N } σ H1 else u { De with nx := N } σ H1) ∧ ∀ σ' H', N σ' H' → De.nx σ' H'
theorem ps_ifM {X : Cx} {c : Expr} {a b : List Stmt} {tc : TT} {t u : TS} {pos : Pos} (hc : PT X c tc) (ha : PSs X a t) (hb : PSs X b u) : PS X (.If c a b pos) (tIfM tc t u) := by
  intro pins s σ H De I h
  obtain ⟨N, h, hN⟩ := h
  refine thn (ps_if hc ha hb pins s σ H { De with nx := N } I h) fun f s' q => ?_
  cases f with
  | next => obtain ⟨σ', H', I', q⟩ := q; exact ⟨σ', H', I', hN _ _ q⟩
  | brk => exact q
  | cont => exact q
  | ret v => exact q

/-! ### words -/
def Word (x : Str) : Prop := 1 ≤ x.length ∧ x.length ≤ 28 ∧ ∀ c ∈ x.cps.toList, 97 ≤ c ∧ c ≤ 122
instance (x : Str) : Decidable (Word x) := by unfold Word; infer_instance
mutual
def Tr.words : Tr → Prop
  | .node m ks => Word m ∧ wordsOf ks
def wordsOf : List Tr → Prop
  | [] => True
  | t :: ts => t.words ∧ wordsOf ts
end
theorem wordsOf_iff : ∀ {ts : List Tr}, wordsOf ts ↔ ∀ t ∈ ts, t.words
  | [] => by simp [wordsOf]
  | t :: ts => by
    rw [wordsOf, wordsOf_iff (ts := ts)]
    constructor
    · rintro ⟨h1, h2⟩ u hu
      rcases List.mem_cons.mp hu with rfl | hu
      · exact h1
      · exact h2 u hu
    · intro h
      exact ⟨h t List.mem_cons_self, fun u hu => h u (List.mem_cons_of_mem _ hu)⟩
theorem word_sab : Word (Str.ofString "sab") := by decide +kernel
theorem word_tab : Word (Str.ofString "tab") := by decide +kernel
theorem word_sob : Word (Str.ofString "sob") := by decide +kernel
theorem word_sat : Word (Str.ofString "sat") := by decide +kernel
theorem four_words (n : Int) : ∃ m, atI [V.str (Str.ofString "sab"), V.str (Str.ofString "tab"), V.str (Str.ofString "sob"), V.str (Str.ofString "sat")] (n % 4) = some (V.str m) ∧ Word m := by
  have h1 : 0 ≤ n % 4 := Int.emod_nonneg _ (by decide)
  have h2 : n % 4 < 4 := Int.emod_lt_of_pos _ (by decide)
  generalize n % 4 = k at *
  obtain rfl | rfl | rfl | rfl : k = 0 ∨ k = 1 ∨ k = 2 ∨ k = 3 := by omega
  · exact ⟨_, rfl, word_sab⟩
  · exact ⟨_, rfl, word_tab⟩
  · exact ⟨_, rfl, word_sob⟩
  · exact ⟨_, rfl, word_sat⟩
theorem seven_ints (n : Int) : ∃ k : Nat, atI [V.int 0, V.int 0, V.int 1, V.int 1, V.int 2, V.int 3, V.int 4] (n % 7) = some (V.int (k : Int)) := by
  have h1 : 0 ≤ n % 7 := Int.emod_nonneg _ (by decide)
  have h2 : n % 7 < 7 := Int.emod_lt_of_pos _ (by decide)
  generalize n % 7 = k at *
  obtain rfl | rfl | rfl | rfl | rfl | rfl | rfl : k = 0 ∨ k = 1 ∨ k = 2 ∨ k = 3 ∨ k = 4 ∨ k = 5 ∨ k = 6 := by omega
  · exact ⟨0, rfl⟩
  · exact ⟨0, rfl⟩
  · exact ⟨1, rfl⟩
  · exact ⟨1, rfl⟩
  · exact ⟨2, rfl⟩
  · exact ⟨3, rfl⟩
  · exact ⟨4, rfl⟩
theorem alphabet_all : ∀ k : _root_.Fin 26, atI (Str.ofString "abcdefghijklmnopqrstuvwxyz").cps.toList ((k.val : Nat) : Int) = some (97 + k.val) := by decide +kernel
theorem alphabet_at (n : Int) : ∃ c, atI (Str.ofString "abcdefghijklmnopqrstuvwxyz").cps.toList (n % 26) = some c ∧ 97 ≤ c ∧ c ≤ 122 := by
  have h1 : 0 ≤ n % 26 := Int.emod_nonneg _ (by decide)
  have h2 : n % 26 < 26 := Int.emod_lt_of_pos _ (by decide)
  have := alphabet_all ⟨(n % 26).toNat, by omega⟩
  simp only [Int.toNat_of_nonneg h1] at this
  exact ⟨_, this, by omega, by omega⟩
theorem ints_ix {ns : List Int} {i : Nat} (h : i < ns.length) : atI (ns.map V.int) (i : Int) = some (V.int ns[i]) := atI_nat (by rw [List.getElem?_map, List.getElem?_eq_getElem h]; rfl)
theorem ints_ixI {ns : List Int} {i : Int} (h0 : 0 ≤ i) (h : i < ns.length) : ∃ n, atI (ns.map V.int) i = some (V.int n) := by
  have := ints_ix (ns := ns) (i := i.toNat) (by omega)
  rw [Int.toNat_of_nonneg h0] at this
  exact ⟨_, this⟩
end TT
namespace TT
open PySem PySem.Spec PyProof.Rows L2
/-! ### lists of pairs -/
theorem paired_mono {α β : Type} {R S : α → β → Prop} (f : ∀ a b, R a b → S a b) : ∀ {xs : List α} {ys : List β}, Paired R xs ys → Paired S xs ys
  | _, _, .nil => .nil
  | _, _, .cons r t => .cons (f _ _ r) (paired_mono f t)
theorem paired_app {α β : Type} {R : α → β → Prop} : ∀ {xs xs' : List α} {ys ys' : List β}, Paired R xs ys → Paired R xs' ys' → Paired R (xs ++ xs') (ys ++ ys')
  | _, _, _, _, .nil, s => s
  | _, _, _, _, .cons r t, s => .cons r (paired_app t s)
theorem paired_snoc {α β : Type} {R : α → β → Prop} {y : α} : ∀ {xs : List α} {zs : List β}, Paired R (xs ++ [y]) zs → ∃ ys z, zs = ys ++ [z] ∧ Paired R xs ys ∧ R y z
  | [], _, .cons r .nil => ⟨[], _, rfl, .nil, r⟩
  | x :: xs, _, .cons r t => by
    obtain ⟨ys, z, rfl, t', q⟩ := paired_snoc t
    exact ⟨_ :: ys, z, rfl, .cons r t', q⟩
theorem last_of {α : Type} : ∀ (xs : List α), xs.isEmpty = false → ∃ ys y, xs = ys ++ [y]
  | [], h => by simp at h
  | x :: xs, _ => ⟨(x :: xs).dropLast, (x :: xs).getLast (by simp), (List.dropLast_concat_getLast (by simp)).symm⟩
theorem last_at {α : Type} (ys : List α) (y : α) : (ys ++ [y])[(ys ++ [y]).length - 1]? = some y := by simp
/-- an item at a place, of a list or a tuple -/
theorem ixAny {K : PySem.W.Frag} {H : Hp} {a : Addr} {vs : List V} {i : Int} {v : V} {Q : VK} (h : SqL K H a vs ∨ SqT K H a vs) (e : atI vs i = some v) (q : Q v H) : rIx K (.ref a) (.int i) H Q := by
  rcases h with h | h
  · exact .inl ⟨a, vs, i, v, rfl, rfl, h, e, q⟩
  · exact .inr (.inl ⟨a, vs, i, v, rfl, rfl, h, e, q⟩)

/-! ### what isinstance says of the built-in kinds -/
section
variable (K : PySem.W.Frag)
open PySem.W
theorem kit2_list : kitAny K (.type "list") [.type "list", .type "tuple"] = some true := by rfl
theorem kit2_tuple : kitAny K (.type "tuple") [.type "list", .type "tuple"] = some true := by rfl
theorem kit2_int : kitAny K (.type "int") [.type "list", .type "tuple"] = some false := by rfl
theorem kit2_str : kitAny K (.type "str") [.type "list", .type "tuple"] = some false := by rfl
theorem kit2_bool : kitAny K (.type "bool") [.type "list", .type "tuple"] = some false := by rfl
theorem kit2_none : kitAny K (.type "NoneType") [.type "list", .type "tuple"] = some false := by rfl
theorem kit_list_list : kitOne K (.type "list") (.type "list") = some true := by rfl
theorem kit_list_tuple : kitOne K (.type "list") (.type "tuple") = some false := by rfl
theorem kit_tuple_list : kitOne K (.type "tuple") (.type "list") = some false := by rfl
theorem kit_tuple_tuple : kitOne K (.type "tuple") (.type "tuple") = some true := by rfl
theorem kit_str_str : kitOne K (.type "str") (.type "str") = some true := by rfl
theorem kit_int_str : kitOne K (.type "int") (.type "str") = some false := by rfl
theorem kit_bool_str : kitOne K (.type "bool") (.type "str") = some false := by rfl
theorem kit_none_str : kitOne K (.type "NoneType") (.type "str") = some false := by rfl
theorem kit_bool_bool : kitOne K (.type "bool") (.type "bool") = some true := by rfl
theorem kit_int_bool : kitOne K (.type "int") (.type "bool") = some false := by rfl
theorem kit_none_bool : kitOne K (.type "NoneType") (.type "bool") = some false := by rfl
theorem kit_int_int : kitOne K (.type "int") (.type "int") = some true := by rfl
end

/-! ### pairs of things that bear one datum -/
def PairRel (G : Hp) (v : V) (d : D) : Prop := ∃ (q : Addr) (v1 v2 : V), v = .ref q ∧ G q = some (.tup [v1, v2]) ∧ Rep G v1 d ∧ Rep G v2 d
theorem PairRel.mono {G G' : Hp} (e : Same G G') {v : V} {d : D} (h : PairRel G v d) : PairRel G' v d := by
  obtain ⟨q, v1, v2, rfl, hq, r1, r2⟩ := h
  exact ⟨q, v1, v2, rfl, e _ _ hq, r1.mono e, r2.mono e⟩
/-- a path and the trees at it, as a pair -/
def JobRel (G : Hp) (v : V) (j : Job) : Prop := ∃ (q : Addr) (v1 v2 : V), v = .ref q ∧ G q = some (.tup [v1, v2]) ∧ Rep G v1 (pathD j.1) ∧ Rep G v2 (rowD j.2)
theorem JobRel.mono {G G' : Hp} (e : Same G G') {v : V} {j : Job} (h : JobRel G v j) : JobRel G' v j := by
  obtain ⟨q, v1, v2, rfl, hq, r1, r2⟩ := h
  exact ⟨q, v1, v2, rfl, e _ _ hq, r1.mono e, r2.mono e⟩
def PathRel (G : Hp) (v : V) (p : List Int) : Prop := Rep G v (pathD p)
theorem PathRel.mono {G G' : Hp} (e : Same G G') {v : V} {p : List Int} (h : PathRel G v p) : PathRel G' v p := Rep.mono e h
theorem paths_reps {G : Hp} : ∀ {vs : List V} {ps : List (List Int)}, Paired (PathRel G) vs ps → Reps G vs (ps.map pathD)
  | _, _, .nil => .nil
  | _, _, .cons r t => .cons r (paths_reps t)
end TT
namespace TT
open PySem PySem.Spec PyProof.Rows L2
section
variable {G H G2 H2 : Hp} {a : Addr} {o : HO}
/-- a list of ours that is not frozen is changed -/
theorem Ext.mut (x : Ext G H G2 H2) (n : G2 a = none) (nh : H a = none) : Ext G H G2 (upd H2 a o) := ⟨x.g, same_mut x.gh n, same_mut x.h nh, x.new⟩
end
theorem rel_path {G H : Hp} (s : Same G H) {v : V} {p : List Int} (r : PathRel G v p) : ∃ a, v = .ref a ∧ H a = some (.lst (p.map V.int)) := by
  obtain ⟨a, rfl, h⟩ := Rep.path r
  exact ⟨a, rfl, s _ _ h⟩
theorem subs_at (p : List Int) : ∀ (ts : List Tr) (j i : Nat) (h : i < ts.length), (subs p j ts)[i]? = some (p ++ [((j + i : Nat) : Int)], ts[i].kids)
  | t :: ts, j, 0, _ => by simp [subs]
  | t :: ts, j, i + 1, h => by
    have := subs_at p ts (j + 1) i (by simpa using h)
    rw [subs, List.getElem?_cons_succ, this]
    have e : j + 1 + i = j + (i + 1) := by omega
    rw [e]
    simp
theorem take_one {α : Type} {l : List α} {i : Nat} {x : α} (h : l[i]? = some x) : l.take (i + 1) = l.take i ++ [x] := by
  obtain ⟨hi, e⟩ := List.getElem?_eq_some_iff.mp h
  rw [List.take_succ_eq_append_getElem hi, e]
end TT
namespace TT
open PySem PySem.Spec PyProof.Rows L2
/-- the first part of each pair of a list -/
def FstRel (G : Hp) (v f : V) : Prop := ∃ (q : Addr) (s : V), v = .ref q ∧ G q = some (.tup [f, s])
theorem jobs_firsts {G : Hp} : ∀ {vs : List V} {js : List Job}, Paired (JobRel G) vs js → ∃ fs, Paired (FstRel G) vs fs ∧ Paired (PathRel G) fs (js.map (·.1))
  | _, _, .nil => ⟨[], .nil, .nil⟩
  | _, _, .cons r t => by
    obtain ⟨q, v1, v2, rfl, hq, r1, _⟩ := r
    obtain ⟨fs, h1, h2⟩ := jobs_firsts t
    exact ⟨v1 :: fs, .cons ⟨q, v2, rfl, hq⟩ h1, .cons r1 h2⟩
theorem deeper_snoc (L : List Job) (j : Job) : deeper (L ++ [j]) = deeper L ++ subs j.1 0 j.2 := by simp [deeper]
theorem deeper_len {L : List Job} {n : Nat} (h : ∀ j ∈ L, j.1.length ≤ n) : ∀ j ∈ deeper L, j.1.length ≤ n + (deeper L).length := by
  intro j hj
  obtain ⟨i, hi, hm⟩ := List.mem_flatMap.mp hj
  have h1 := h i hi
  have h2 : 1 ≤ (deeper L).length := List.length_pos_of_mem hj
  obtain ⟨k, hk, ek⟩ := List.mem_iff_getElem.mp hm
  have hk2 : k < i.2.length := by rw [subs_length] at hk; exact hk
  have e1 := subs_at i.1 i.2 0 k hk2
  rw [List.getElem?_eq_getElem hk, ek] at e1
  have e2 := Option.some.inj e1
  rw [e2]
  show (i.1 ++ [_]).length ≤ _
  rw [List.length_append, List.length_singleton]
  omega
end TT
namespace TT
open PySem
theorem bt_list : bootBuiltins "list" = some (.type "list") := by decide +kernel
theorem bt_tuple : bootBuiltins "tuple" = some (.type "tuple") := by decide +kernel
theorem bt_len : bootBuiltins "len" = some (.builtin "len") := by decide +kernel
theorem bt_min : bootBuiltins "min" = some (.builtin "min") := by decide +kernel
theorem bt_abs : bootBuiltins "abs" = some (.builtin "abs") := by decide +kernel
theorem bt_sorted : bootBuiltins "sorted" = some (.builtin "sorted") := by decide +kernel
theorem bt_isinstance : bootBuiltins "isinstance" = some (.builtin "isinstance") := by decide +kernel
theorem bt_str : bootBuiltins "str" = some (.type "str") := by decide +kernel
theorem bt_int : bootBuiltins "int" = some (.type "int") := by decide +kernel
theorem bt_bool : bootBuiltins "bool" = some (.type "bool") := by decide +kernel
end TT
namespace TT
open PySem PySem.Spec PyProof.Rows L2
/-- a built-in type as a value -/
theorem pe_ty {X : Cx} {x : Str} {n : String} {pos : Pos} (hg : Gl X x) (hm : X.mg x = none) (hv : bootBuiltins x = some (.type n)) (hn : x ≠ "__name__" := by decide) (hd : (x == ("__debug__" : Str)) = false := by decide) : PE X (.Name x pos) (tC (.ty n)) :=
  pe_bltn hg hm hv (v := .ty n) rfl hn hd
end TT
namespace TT
open PySem PySem.Spec PyProof.Rows L2

/-! ### an exception on its way: how it lies -/
/-- the record at x, of class cls, with its trace's record: both new since h0, neither tracked -/
structure Fly (h h0 : Heap) (H' : Hp) (x : Addr) (cls : Value) : Prop where
  n0 : h0.get? x = none
  nH : H' x = none
  ex : ∃ (oe : Obj) (vs : Array Value) (T : Addr) (oT : Obj) (ts : Array Value) (a0 : Value), h0.get? T = none ∧ H' T = none ∧ h.get? x = some oe ∧ (oe.cls = cls ∧ vs[0]? = some a0) ∧ oe.data = .fields vs ∧ vs[1]? = some (.ref T) ∧ T ≠ x ∧ h.get? T = some oT ∧ oT.data = .fields ts ∧ ts[3]? = some .none
/-- an exception that has left the frames above outer -/
def CXr (P : Program) (w : World) : CXT := fun outer H s E e s' => ∃ (x : Addr) (cls : Value) (H' : Hp), e = .ref x ∧ s'.os = s.os ∧ AllBare s'.gens ∧ Un (frs outer) [] H H' s.heap s'.heap ∧ HOk P w H' s'.heap ∧ Fly s'.heap s.heap H' x cls ∧ E cls none H'

theorem obj_there {P : Program} {w : World} {H : Hp} {h : Heap} {a : Addr} {o : HO} (x : ObjOk P w H h a o) : ∃ ob, h.get? a = some ob := by
  cases o with
  | lst xs => obtain ⟨_, _, _, _, e⟩ := x; exact ⟨_, e⟩
  | tup xs => obtain ⟨_, _, _, o, e, _⟩ := x; exact ⟨_, e⟩
  | dK kvs => obtain ⟨_, _, _, _, o, _, _, e, _⟩ := x; exact ⟨_, e⟩
  | dT kvs => obtain ⟨_, _, _, _, o, _, _, e, _⟩ := x; exact ⟨_, e⟩
  | set S n => obtain ⟨o, _, _, _, e, _⟩ := x; exact ⟨_, e⟩
  | ins C dx fs => obtain ⟨_, _, _, e, _⟩ := x; exact ⟨_, e⟩
  | own y => exact x
  | xd fs => obtain ⟨_, ⟨_, _, _, e, _⟩, _⟩ := x; exact ⟨_, e⟩
  | rng lo hi => obtain ⟨_, _, _, e⟩ := x; exact ⟨_, e⟩
  | frz ob u => obtain ⟨e, _⟩ := x; exact ⟨_, e⟩
  | tbl ps => exact ⟨_, x⟩
  | met f y => exact ⟨_, x⟩
  | ext φ => exact x.2.1

section
variable {X : Cx} {pins : List (Addr × Obj)} {σ : L2.St} {H : Hp} {s : Shared}
/-- a frame that runs is no record -/
theorem frame_rec {base h : Heap} {l : List Env} {b : Addr} {o : Obj} {vs : Array Value} (F : h.FunFrames base l) (hb : b ∈ frs l) (e : h.get? b = some o) (d : o.data = .fields vs) : False := by
  obtain ⟨_, o', e', n⟩ := F.mem hb
  rw [e] at e'
  cases e'
  exact n vs d
/-- behind an exception: only the record, its trace and the frames of l may have changed -/
theorem hok_behind {P : Program} {w : World} {H' : Hp} {h h' : Heap} {l : List Addr} (ok : HOk P w H' h) (n : ∀ b ∈ l, H' b = none) (k : (PySem.W.hideAll h l).StaysIn h') : HOk P w H' h' := fun b u e =>
  (ok b u e).stay (fun c v hc q => k c v (PySem.W.hideAll_get l q fun hm => by
    have z := n c hm
    rcases hc with rfl | hc
    · rw [z] at e; cases e
    · rw [z] at hc; cases hc)) (fun _ q => q) fun _ _ q => q
end
end TT
namespace TT
open PySem PySem.Spec PyProof.Rows L2

/-- a context that is a def's own frame -/
structure Own (X : Cx) : Prop where
  st : X.stack = X.env :: X.outer
  fr : X.env.frame = some X.env.locals
  ex : X.ex = []

section
variable {X : Cx} {pins : List (Addr × Obj)} {σ : L2.St} {H : Hp} {s : Shared} {E E' : XK}
theorem mem_frs {l : List Env} : ∀ env ∈ l, ∀ b, env.frame = some b → b ∈ frs l := fun env he b hb => List.mem_filterMap.mpr ⟨env, he, hb⟩
theorem Own.free (O : Own X) (I : Inv X pins σ H s) {b : Addr} (hb : b ∈ frs (X.env :: X.outer)) : H b = none := I.stkFree b (by rw [O.st]; exact hb)
theorem Own.fs (O : Own X) {b : Addr} (hb : b ∈ frs (X.env :: X.outer)) : b = X.env.locals ∨ b ∈ X.fs := by
  unfold frs at hb
  rw [List.filterMap_cons, O.fr] at hb
  exact List.mem_cons.mp hb
theorem Own.old (O : Own X) (I : Inv X pins σ H s) {b : Addr} {o : Obj} (e : X.s₀.heap.get? b = some o) : ∃ o', s.heap.get? b = some o' := I.base.there b o e (by rw [O.ex]; simp)
/-- the end of both: the record lies at x, its trace at T'; all else of h but the frames is kept -/
theorem left_at (O : Own X) (J : Inv X pins σ H s) {h' : Heap} {l : List Addr} {x : Addr} {cls a0 : Value} (nH : ∀ b ∈ l, H b = none) (n0 : ∀ b ∈ l, X.s₀.heap.get? b = none ∨ b ∈ X.fs) (nx0 : X.s₀.heap.get? x = none) (nxH : H x = none)
    (fl : Heap.FlyingW (PySem.W.hideAll s.heap l) X.outer x cls a0 h') (up : s.heap.UpToSlots h') (q : E' cls none H) :
    CXr X.prog X.w X.outer X.H₀ X.s₀ E' (.ref x) { s with heap := h' } := by
  obtain ⟨st, nb, ff, oe, vs, T, oT, ts, hx, hc, hd, h1, nT, hTx, hT, hdT, h3⟩ := fl
  have inl : ∀ b o, s.heap.get? b = some o → (PySem.W.hideAll s.heap l).get? b = none → b ∈ l := fun b o e n => by
    by_cases hm : b ∈ l
    · exact hm
    · rw [PySem.W.hideAll_get l e hm] at n
      cases n
  have nTH : H T = none := by
    cases e : H T with
    | none => rfl
    | some o =>
      obtain ⟨ob, eb⟩ := obj_there (J.hok T o e)
      have := nH T (inl T ob eb nT)
      rw [e] at this
      cases this
  have nT0 : X.s₀.heap.get? T = none := by
    cases e : X.s₀.heap.get? T with
    | none => rfl
    | some o =>
      obtain ⟨o', eo⟩ := O.old J e
      rcases n0 T (inl T o' eo nT) with z | z
      · rw [e] at z; cases z
      · exact (frame_rec ff z hT hdT).elim
  have keep : ∀ b o, X.s₀.heap.get? b = some o → b ∉ X.fs → s.heap.get? b = some o → h'.get? b = some o := fun b o e nf es => by
    refine st b o (PySem.W.hideAll_get l es fun hm => ?_)
    rcases n0 b hm with z | z
    · rw [e] at z; cases z
    · exact nf z
  have noex : ∀ b : Addr, b ∉ X.ex := fun b => by rw [O.ex]; simp
  refine ⟨x, cls, H, rfl, J.os, J.bare, ⟨fun b o e n nf _ => ?_, fun b o e n hf _ => ?_, fun b o e n _ => J.base.free b o e n (noex b), fun b o e _ => ?_, J.base.tups, J.base.frzs, J.base.tbls⟩, hok_behind J.hok nH st, ⟨nx0, nxH, oe, vs, T, oT, ts, a0, nT0, nTH, hx, hc, hd, h1, hTx, hT, hdT, h3⟩, q⟩
  · exact keep b o e nf (J.base.keep b o e n nf (noex b))
  · obtain ⟨sl, e1⟩ := J.base.slot b o e n hf (noex b)
    have nr : ∀ vs, o.data ≠ .fields vs := fun vs d => frame_rec J.ok.funs hf e d
    obtain ⟨sl', e2⟩ := up b _ e1 nr
    exact ⟨sl', e2⟩
  · obtain ⟨o', e1⟩ := J.base.there b o e (noex b)
    by_cases hm : b ∈ l
    · rcases n0 b hm with z | z
      · rw [e] at z; cases z
      · obtain ⟨_, o2, e2, _⟩ := ff.mem z
        exact ⟨o2, e2⟩
    · exact ⟨o', st b o' (PySem.W.hideAll_get l e1 hm)⟩
/-- an exception made here leaves this frame -/
theorem leave_made (O : Own X) {x : Addr} {cls : Value} {args : List Value} {h1 : Heap} {E2 : Value → Shared → Prop} (I : Inv X pins σ H s) (m : Heap.MadeExcOf s.heap h1 x cls args) (q : E' cls none H) :
    wpAny (model X.prog X.w) X.A (leaving X.env (.ref x)) (fun _ s'' => CXr X.prog X.w X.outer X.H₀ X.s₀ E' (.ref x) s'') E2 { s with heap := h1 } := by
  have ff : s.heap.FunFrames X.base (X.env :: X.outer) := O.st ▸ I.stack
  have hfr : X.A.frames = some (X.env :: X.outer) := O.st ▸ I.ok.frames
  refine wpAny_leaves_madeW (base := PySem.W.hideAll s.heap (frs (X.env :: X.outer))) hfr O.fr (fun b o e => PySem.W.of_hideAll _ e) (PySem.W.funFrames_hide ff mem_frs) m fun h' t fl _ _ up => ?_
  have nx : H x = none := by
    cases e : H x with
    | none => rfl
    | some o =>
      obtain ⟨ob, eb⟩ := obj_there (I.hok x o e)
      rw [m.new] at eb; cases eb
  have nx0 : X.s₀.heap.get? x = none := by
    cases e : X.s₀.heap.get? x with
    | none => rfl
    | some o =>
      obtain ⟨o', eo⟩ := O.old I e
      rw [m.new] at eo; cases eo
  refine left_at O I (l := frs (X.env :: X.outer)) (fun b hb => O.free I hb) (fun b hb => ?_) nx0 nx fl ((Heap.UpToSlots.of_keeps m.keeps).trans up) q
  rcases O.fs hb with rfl | hb
  · exact .inl (Heap.get?_none_of_le I.ok.above)
  · exact .inr hb
end

/-! ### the class of an exception -/
theorem exc_obj {K : PySem.W.Frag} {h : Heap} {C : Addr} {bmB : List Value} {newId : String} (X : K.In h) (q : PySem.W.excIn K C bmB newId = true) :
    ∃ bm ns nm qn bs hd sn sub ab col dd k0 k1 k2 k3 k5 mN, h.get? C = some (excClassObj nm qn C ns bs bm hd sn sub ab col dd k0 k1 k2 k3 k5 newId) ∧ h.Ns ns mN ∧ mN "__init__" = none ∧ OwnTail h bmB bm := by
  unfold PySem.W.excIn at q
  split at q
  · rename_i dd cd sl ho
    split at q
    · rename_i C' bm k0 k1 k2 k3 n k5 hm hs
      simp only [Bool.and_eq_true, beq_iff_eq, Bool.not_eq_true'] at q
      obtain ⟨⟨⟨⟨⟨rfl, rfl⟩, hdel⟩, ht⟩, hok⟩, hni⟩ := q
      obtain ⟨nm, bs, mro, ns, qn, hd, sn, sub, ab, col, del⟩ := cd
      dsimp only at hm hdel hok hni
      subst hm hdel
      have hsl : sl = #[k0, k1, k2, k3, some (.builtin n), k5] := by
        obtain ⟨l⟩ := sl
        simp only at hs
        rw [hs]
      subst hsl
      exact ⟨bm, ns, nm, qn, bs, hd, sn, sub, ab, col, dd, k0, k1, k2, k3, k5, _, X _ _ ho, .of_isNs (PySem.W.isNs_of_in X hok), PySem.W.nsMap_none_of_in X hok hni, PySem.W.tail_of_in X ht⟩
    · cases q
  · cases q

/-! ### raise -/
/-- the classes below ValueError -/
abbrev veMro : List Value := [.type "ValueError", .type "Exception", .type "BaseException", .type "object"]
def ExcV (K : PySem.W.Frag) (C : Addr) : Prop := PySem.W.excIn K C veMro "ValueError.__new__" = true
/-- what an exception made here must come to -/
def Raises (X : Cx) (E : XK) : Prop := ∀ (pins : List (Addr × Obj)) (σ : L2.St) (H : Hp) (s : Shared) (x : Addr) (cls : Value) (args : List Value) (h1 : Heap), Inv X pins σ H s → Heap.MadeExcOf s.heap h1 x cls args → E cls none H → X.xe (.ref x) { s with heap := h1 }
def tRaise (C : Addr) (E : XK) (t : TA) : TS := fun _ σ H => t σ H fun vs H1 => vs.length ≤ sizeLine ∧ E (.ref C) none H1
theorem ps_raise {X : Cx} {E : XK} {C : Addr} {x : Str} {np cpos pos : Pos} {e : Expr} {es : List Expr} {t : TA} (hR : Raises X E) (hC : ExcV X.K C) (hc : X.calm = true) (hg : Gl X x) (hm : X.mg x = some (.ref C)) (ha : PA X (e :: es) t)
    (hdb : (x == ("__debug__" : Str)) = false := by decide) (he : starEach (e :: es) X.env = (false, eval e X.env) :: starEach es X.env := by rfl) (hpl : (backTo cpos (starEach es X.env)).any (·.1) = false := by rfl) :
    PS X (.Raise (some (.Call (.Name x np) (e :: es) [] cpos)) none pos) (tRaise C E t) := by
  intro pins s σ H D I h
  obtain ⟨bm, ns, nm, qn, bs, hd, sn, sub, ab, col, dd, k0, k1, k2, k3, k5, mN, hCo, hN, hni, hT⟩ := exc_obj I.ok.mod.kin hC
  have hbase : bm.contains (.type "BaseException") = true := hT.hasType PySem.F.excBase_ValueError.hasBase
  refine wpAny_Raise_call_subT (C := C) (nm := nm) (q := qn) (N := ns) (bs := bs) (bm := bm) (hdct := hd) (sn := sn) (sub := sub) (ab := ab) (col := col) (dd := dd) (k0 := k0) (k1 := k1) (k2 := k2) (k3 := k3) (k5 := k5) PySem.F.excBase_ValueError (mN := mN) hbase (I.ok.hd hc) (by rw [he]; show (false || (backTo cpos (starEach es X.env)).any (·.1)) = false; rw [hpl]; rfl) hni (ld_glob I hg hm ⟨rfl, ?_⟩ hdb)
  have hp := ha cpos pins s σ H _ I h
  rw [he] at hp ⊢
  refine Calls.evalArgs_plain (thn hp fun us s1 ⟨vs, H1, I1, r, hl, q⟩ => ⟨rfl, ?_, I1.bk _ _ hCo, hN.keeps I1.bk, hT.keeps I1.bk, fun h' x m => ?_⟩)
  · show us.length ≤ sizeLine
    rw [← r.length]; exact hl
  · exact hR pins σ H1 s1 x _ _ h' I1 m q
end TT
namespace TT
open PySem PySem.Spec PyProof.Rows L2

/-! ### defs that may raise -/
section
variable {P : Program} {w : World} {K : PySem.W.Frag} {mg : Str → Option Value} {base : Heap} {N : List Str} {qual : Str} {scope : Scope} {f : Addr} {cd : Value} {A : Around} {outer : List Env} {s : Shared} {H : Hp} {E : XK}
theorem own_cx {CX : CXT} : Own (cxOf CX P w K mg base N qual scope f cd A outer s H E) := ⟨rfl, rfl, rfl⟩
theorem raises_cx : Raises (cxOf (CXr P w) P w K mg base N qual scope f cd A outer s H E) E := fun _ _ _ _ _ _ _ _ I m q => leave_made own_cx I m q
end
theorem passR0 {X : Cx} : Passes (CXr X.prog X.w) X E0 := fun _ _ _ _ _ _ _ h => by
  obtain ⟨_, _, _, _, _, _, _, _, _, q⟩ := h
  exact q.elim
section
variable {P : Program} {w : World} {K : PySem.W.Frag} {mg : Str → Option Value} {base : Heap}
theorem fun_okR {x qual : Str} {st : Stmt} {f : Addr} {fd : FuncData} {N ps : List Str} {k : Nat} {sp : Sp} (F : Fun K x qual st f fd) (S : FnScope N ps (defScope st)) (len : ∀ vs H Q E, sp vs H Q E → vs.length = ps.length)
    (hbody : ∀ (cdv : Value) (A : Around) (outer : List Env) (s : Shared) (H : Hp) (vs : List V) (Q : VK) (E : XK), Room k (A.deeper (envOfC qual (defScope st) s.heap.objs.size f cdv)) → sp vs H Q E →
      ∃ t, PSs (cxOf (CXr P w) P w K mg base N qual (defScope st) f cdv A outer s H E) (defBody st) t ∧ t { nx := fun _ H' => Q .non H', rt := Q } (start N vs) H) : FnOk P w K mg base (CXr P w) (k + 1) f fd ps sp := by
  obtain ⟨oc, od, kV, doc, pm, an, cdv, ct, osl, rfl, lk, hcd⟩ := F.ex
  exact fn_of lk hcd S len fun A outer s H vs Q E hr hsp => hbody cdv A outer s H vs Q E hr hsp
end
structure OkR (P : Program) (w : World) (K : PySem.W.Frag) (mg : Str → Option Value) (base : Heap) (k : Nat) (x : Str) (ps : List Str) (sp : Sp) : Prop where
  ex : ∃ (f : Addr) (fd : FuncData), FnOk P w K mg base (CXr P w) k f fd ps sp ∧ mg x = some (.ref f) ∧ PySem.W.keepIn K (.ref f) = true ∧ Binds K fd ps []
theorem pe_fnR {X : Cx} {k : Nat} {x : Str} {ps : List Str} {sp : Sp} {E : XK} {e : Expr} {es : List Expr} {t : TA} {p pos : Pos} (F : OkR X.prog X.w X.K X.mg X.base k x ps sp) (hx : Passes (CXr X.prog X.w) X E) (hr : Room k X.A) (hg : Gl X x) (ha : PA X (e :: es) t)
    (hdb : (x == ("__debug__" : Str)) = false := by decide) (he : starEach (e :: es) X.env = (false, eval e X.env) :: starEach es X.env := by rfl) (hpl : (backTo pos (starEach es X.env)).any (·.1) = false := by rfl) :
    PE X (.Call (.Name x p) (e :: es) [] pos) (tCall sp [] E t) := by
  obtain ⟨f, fd, F, hm, hk, hb⟩ := F.ex
  exact pe_call F hr hg hm hk hb .nil hx ha hdb he hpl

/-! ### an exception seen by this frame -/
section
variable {X : Cx} {pins : List (Addr × Obj)} {σ : L2.St} {H H' : Hp} {s s' : Shared}
end

section
variable {X : Cx} {pins : List (Addr × Obj)} {σ : L2.St} {H : Hp} {s : Shared} {x : Addr} {oe : Obj}
end

/-! ### what stands under try: one call, its value kept or dropped -/
abbrev TB := Ends → (Value → Hp → Prop) → L2.St → Hp → Prop
section
variable {X : Cx} {k : Nat} {sp : Sp} {ps : List Str} {f : Str} {e : Expr} {es : List Expr} {t : TA} {p pos : Pos}
end
end TT
namespace TT
open PySem PySem.Spec PyProof.Rows L2

/-! ### try .. except C -/
section
variable {X : Cx}
variable {body suite : List Stmt} {b₀ : Stmt} {c : Str} {np hpos pos : Pos} {C : Addr} {tb : TB}
end

/-! ### try .. except C as e, the suite returns -/
section
variable {X : Cx} {pins : List (Addr × Obj)} {σ : L2.St} {H : Hp} {s : Shared}
variable {body suite : List Stmt} {b₀ : Stmt} {c n : Str} {np hpos pos : Pos} {C : Addr} {tb : TB}
end
end TT
namespace TT
open PySem PySem.Spec PySem.W PyProof.Rows Builtin Builtin.ObjectAttr Builtin.Getset_descriptor

/-! ### isinstance of an exception of ours -/
/-- what the text says of the class C of an exception -/
structure ExcK (K : PySem.W.Frag) (C : Addr) : Prop where
  ga : PySem.W.findIn K (.ref C) "__getattribute__" = some (some (.builtin "BaseException.__getattribute__"))
  gn : PySem.W.findIn K (.ref C) "__getattr__" = some none
  cl : PySem.W.findIn K (.ref C) "__class__" = some (some (.builtin "object.__class__"))
  m1 : PySem.W.mroIn K C (.type "object") = some true
  m2 : PySem.W.mroIn K C (.type "BaseException") = some true
  is : (PySem.W.clsIn K C).isSome = true
section
variable {prog : Program} {w : World} {A : Around} {E : Value → Shared → Prop} {K : PySem.W.Frag} {x C : Addr} {h : Heap} {g : Array GenState} {d : Drawn} {t : Nat} {os : OsState}
end
end TT
namespace TT
open PySem PySem.Spec PyProof.Rows L2

/-! ### range(a, b, -1) -/
section
variable {X : Cx} {tg : Expr}
end
/-! ### reversed(list) -/
end TT
namespace TT
open PySem PySem.Spec PyProof.Rows L2
section
variable {X : Cx} {tg : Expr}
theorem bt_reversed : bootBuiltins "reversed" = some (.type "reversed") := by decide +kernel
end
end TT
namespace TT
open PySem PySem.Spec PyProof.Rows L2

/-! ### texts put together: only that one comes, no longer than n -/
def PF (X : Cx) (e : Expr) (c : L2.St → Hp → Prop) (n : Nat) : Prop :=
  ∀ (pins : List (Addr × Obj)) (s : Shared) (σ : L2.St) (H : Hp), Inv X pins σ H s → c σ H → wpAny (model X.prog X.w) X.A (eval e X.env) (fun u s' => ∃ y t, u = .str y t ∧ y.length ≤ n ∧ Inv X pins σ H s') X.xe s
def PFs (X : Cx) (es : List Expr) (c : L2.St → Hp → Prop) (n : Nat) : Prop :=
  ∀ (out : Str) (pins : List (Addr × Obj)) (s : Shared) (σ : L2.St) (H : Hp), Inv X pins σ H s → c σ H → out.length + n ≤ sizeLine → wpAny (model X.prog X.w) X.A (joinParts out (evalEach es X.env)) (fun u s' => ∃ y t, u = .str y t ∧ Inv X pins σ H s') X.xe s
section
variable {X : Cx}
theorem pf_text {x : Str} {j : Nat} {pos : Pos} {n : Nat} (h : x.length ≤ n) : PF X (.Constant (.str x) j pos) (fun _ _ => True) n := fun _ _ _ _ I _ => Calls.Constant_str ⟨x, _, rfl, h, I.tok _⟩
theorem pfs_nil : PFs X [] (fun _ _ => True) 0 := fun out _ _ _ _ I _ h => joinParts_nil ⟨out, _, rfl, I.tok _⟩ (by omega)
theorem pfs_cons {e : Expr} {es : List Expr} {c d : L2.St → Hp → Prop} {n m : Nat} (h1 : PF X e c n) (h2 : PFs X es d m) (he : evalEach (e :: es) X.env = eval e X.env :: evalEach es X.env := by rfl) : PFs X (e :: es) (fun σ H => c σ H ∧ d σ H) (n + m) := by
  intro out pins s σ H I ⟨hc, hd⟩ hl
  rw [he]
  refine joinParts_cons (thn (h1 pins s σ H I hc) fun u s1 ⟨y, t, e, hy, I1⟩ => ?_)
  subst e
  have z : (out ++ y).length = out.length + y.length := strLen_append ..
  exact ⟨by omega, h2 _ pins s1 σ H I1 hd (by omega)⟩
def tText (c : L2.St → Hp → Prop) : TE := fun σ H Q => c σ H ∧ ∀ y, Q (.str y) H
theorem pe_fstr {e₁ e₂ : Expr} {es : List Expr} {c : L2.St → Hp → Prop} {n : Nat} {pos : Pos} (h : PFs X (e₁ :: e₂ :: es) c n) (hn : n ≤ sizeLine) : PE X (.JoinedStr (e₁ :: e₂ :: es) pos) (tText c) := by
  intro pins s σ H Q I ⟨hc, q⟩
  refine JoinedStr_many (thn (h Str.empty pins s σ H I hc (by show 0 + n ≤ sizeLine; omega)) fun u s1 ⟨y, t, e, I1⟩ => ?_)
  subst e
  exact ⟨.str y, H, I1, ⟨t, rfl⟩, q y⟩
end
end TT
namespace TT
open PySem PySem.Spec PyProof.Rows L2

/-! ### one value bears one datum -/
mutual
theorem Rep.one {G : Hp} : ∀ {v : V} {d e : D}, Rep G v d → Rep G v e → d = e
  | _, _, _, .int _, k => by cases k; rfl
  | _, _, _, .str _, k => by cases k; rfl
  | _, _, _, .bl _, k => by cases k; rfl
  | _, _, _, .non, k => by cases k; rfl
  | _, _, _, .lst h r, k => by
    cases k with
    | lst h' r' =>
      rw [h] at h'
      cases h'
      rw [Reps.one r r']
    | tup h' r' =>
      rw [h] at h'
      cases h'
  | _, _, _, .tup h r, k => by
    cases k with
    | lst h' r' =>
      rw [h] at h'
      cases h'
    | tup h' r' =>
      rw [h] at h'
      cases h'
      rw [Reps.one r r']
theorem Reps.one {G : Hp} : ∀ {vs : List V} {ds es : List D}, Reps G vs ds → Reps G vs es → ds = es
  | _, _, _, .nil, k => by cases k; rfl
  | _, _, _, .cons r t, k => by
    cases k with
    | cons r' t' => rw [Rep.one r r', Reps.one t t']
end
mutual
theorem Tr.d_one : ∀ {t u : Tr}, t.d = u.d → t = u
  | .node m ks, .node m' ks', h => by
    rw [Tr.d, Tr.d] at h
    injection h with h
    injection h with h1 h2
    injection h1 with h1
    rw [h1, dOf_one h2]
theorem dOf_one : ∀ {ts us : List Tr}, dOf ts = dOf us → ts = us
  | [], [], _ => rfl
  | [], u :: us, h => by rw [dOf, dOf] at h; cases h
  | t :: ts, [], h => by rw [dOf, dOf] at h; cases h
  | t :: ts, u :: us, h => by
    rw [dOf, dOf] at h
    injection h with h1 h2
    rw [Tr.d_one h1, dOf_one h2]
end
theorem rowD_one {ts us : List Tr} (h : rowD ts = rowD us) : ts = us := by
  unfold rowD at h
  injection h with h
  rw [← dOf_map, ← dOf_map] at h
  exact dOf_one h

/-! ### == of trees and of rows -/
theorem all_iff {n : Nat} {e : Nat → Bool} : (List.range n).all e = true ↔ ∀ j, j < n → e j = true := by
  rw [List.all_eq_true]
  exact ⟨fun h j hj => h j (List.mem_range.mpr hj), fun h j hj => h j (List.mem_range.mp hj)⟩
theorem lists_same {α : Type} {a b : List α} (hl : a.length = b.length) (h : ∀ j, j < a.length → a[j]? = b[j]?) : a = b := by
  apply List.ext_getElem? 
  intro j
  by_cases hj : j < a.length
  · exact h j hj
  · rw [List.getElem?_eq_none (by omega), List.getElem?_eq_none (by omega)]
section
variable {P : Program} {w : World} {G H : Hp} {s : Shared}
/-- how items are compared one by one -/
theorem items_eq {A : Around} {vs ws : List V} {ds es : List D} {xs ys : List Value} (hr : Reps G vs ds) (hq : Reps G ws es) (rv : Vals vs xs) (rw' : Vals ws ys)
    (one : ∀ (j : Nat) (v w : V) (d e : D) (x y : Value), ds[j]? = some d → es[j]? = some e → Rep G v d → Rep G w e → RelV v x → RelV w y → ∃ b, SeqAt.EqAt A s x y b ∧ (b = true ↔ d = e)) :
    ∃ f : Nat → Bool, (∀ j (h1 : j < xs.toArray.size) (h2 : j < ys.toArray.size), SeqAt.EqAt A s xs.toArray[j] ys.toArray[j] (f j)) ∧ ∀ j, j < ds.length → j < es.length → (f j = true ↔ ds[j]? = es[j]?) := by
  have l1 := hr.length
  have l2 := hq.length
  have l3 := rv.length
  have l4 := rw'.length
  have H0 : ∀ j : Nat, ∃ b : Bool, (∀ (h1 : j < xs.toArray.size) (h2 : j < ys.toArray.size), SeqAt.EqAt A s xs.toArray[j] ys.toArray[j] b) ∧ (j < ds.length → j < es.length → (b = true ↔ ds[j]? = es[j]?)) := by
    intro j
    by_cases h1 : j < ds.length
    · by_cases h2 : j < es.length
      · obtain ⟨v, hv, rd⟩ := hr.get (List.getElem?_eq_getElem h1)
        obtain ⟨w, hw, re⟩ := hq.get (List.getElem?_eq_getElem h2)
        obtain ⟨x, hx, rx⟩ := rv.get hv
        obtain ⟨y, hy, ry⟩ := rw'.get hw
        obtain ⟨b, hb, hi⟩ := one j v w _ _ x y (List.getElem?_eq_getElem h1) (List.getElem?_eq_getElem h2) rd re rx ry
        refine ⟨b, fun h3 h4 => ?_, fun _ _ => ?_⟩
        · have e1 : xs.toArray[j] = x := by
            have := List.getElem?_eq_some_iff.mp hx
            obtain ⟨_, e⟩ := this
            simpa using e
          have e2 : ys.toArray[j] = y := by
            obtain ⟨_, e⟩ := List.getElem?_eq_some_iff.mp hy
            simpa using e
          rw [e1, e2]
          exact hb
        · rw [hi, List.getElem?_eq_getElem h1, List.getElem?_eq_getElem h2]
          exact ⟨fun z => by rw [z], fun z => Option.some.inj z⟩
      · exact ⟨true, fun _ h4 => absurd h4 (by rw [List.size_toArray]; omega), fun _ h => absurd h h2⟩
    · exact ⟨true, fun h3 _ => absurd h3 (by rw [List.size_toArray]; omega), fun h _ => absurd h h1⟩
  obtain ⟨f, hf⟩ := Classical.skolem.mp H0
  exact ⟨f, fun j => (hf j).1, fun j => (hf j).2⟩
theorem tree_eq (hok : HOk P w H s.heap) (sm : Same G H) : ∀ (n : Nat) (A : Around) (t u : Tr) (v1 v2 : V) (x y : Value), t.knots ≤ n → A.units + n < cLine → Rep G v1 t.d → Rep G v2 u.d → RelV v1 x → RelV v2 y →
    ∃ b, SeqAt.EqAt A s x y b ∧ (b = true ↔ t.d = u.d)
  | 0, _, t, _, _, _, _, _, hk, _, _, _, _, _ => by rw [knots_eq] at hk; omega
  | n + 1, A, t, u, v1, v2, x, y, hk, hu, r1, r2, q1, q2 => by
    obtain ⟨a, av, rfl, ha, ra⟩ := r1.tree
    obtain ⟨c, cv, rfl, hc, rc⟩ := r2.tree
    cases (show x = Value.ref a from q1)
    cases (show y = Value.ref c from q2)
    by_cases hac : a = c
    · subst hac
      exact ⟨true, SeqAt.EqAt.same _, fun _ => r1.one r2, fun _ => rfl⟩
    · obtain ⟨_, xs, rx, hx⟩ := hok a _ (sm _ _ ha)
      obtain ⟨_, ys, ry, hy⟩ := hok c _ (sm _ _ hc)
      have R1 : Reps G (.str t.mark :: av) (.str t.mark :: t.kids.map Tr.d) := .cons (.str _) ra
      have R2 : Reps G (.str u.mark :: cv) (.str u.mark :: u.kids.map Tr.d) := .cons (.str _) rc
      obtain ⟨f, hf, hi⟩ := items_eq (s := s) (A := A.in1) R1 R2 rx ry (fun j v w d e p q hd he rd re rp rq => by
        cases j with
        | zero =>
          have e1 : D.str t.mark = d := by simpa using hd
          have e2 : D.str u.mark = e := by simpa using he
          subst e1 e2
          cases rd
          cases re
          obtain ⟨k1, rfl⟩ := (show ∃ k, p = Value.str t.mark k from rp)
          obtain ⟨k2, rfl⟩ := (show ∃ k, q = Value.str u.mark k from rq)
          refine ⟨_, SeqAt.EqAt.str_str _ _ _ _, ?_⟩
          rw [beq_iff_eq]
          exact ⟨fun z => by rw [z], fun z => by injection z⟩
        | succ i =>
          have hd' : (t.kids.map Tr.d)[i]? = some d := by simpa using hd
          have he' : (u.kids.map Tr.d)[i]? = some e := by simpa using he
          rw [List.getElem?_map] at hd' he'
          obtain ⟨k1, h1, rfl⟩ := Option.map_eq_some_iff.mp hd'
          obtain ⟨k2, h2, rfl⟩ := Option.map_eq_some_iff.mp he'
          have hkn := knots_mem (List.mem_of_getElem? h1)
          rw [knots_eq] at hk
          exact tree_eq hok sm n A.in1 k1 k2 v w p q (by omega) (by show A.units + 1 + n < cLine; omega) rd re rp rq)
      refine ⟨_, SeqAt.EqAt.of_refs hac (SeqAt.RcAt.tuples (show s.heap.IsTuple a xs.toArray from hx) (show s.heap.IsTuple c ys.toArray from hy) (by omega) hf), ?_⟩
      have l1 := rx.length
      have l2 := ry.length
      have l3 := R1.length
      have l4 := R2.length
      rw [Bool.and_eq_true, all_iff, beq_iff_eq, List.size_toArray, List.size_toArray, tree_d t, tree_d u]
      constructor
      · rintro ⟨h1, h2⟩
        congr 1
        exact lists_same (by omega) fun j hj => (hi j hj (by omega)).mp (h1 j (by omega))
      · intro h
        injection h with h
        refine ⟨fun j hj => (hi j (by omega) (by omega)).mpr (by rw [h]), ?_⟩
        have := congrArg List.length h
        omega
end
end TT
namespace TT
open PySem PySem.Spec PyProof.Rows L2
end TT
namespace TT
open PySem L2
/-! ### steps -/
def levelsOf (ts : List Tr) (p : List Int) : List (List Tr) := (List.range (p.length + 1)).map fun j => (down ts (p.take j)).getD []
theorem levelsOf_length (ts : List Tr) (p : List Int) : (levelsOf ts p).length = p.length + 1 := by unfold levelsOf; rw [List.length_map, List.length_range]
theorem levelsOf_get {ts us : List Tr} {p : List Int} {j : Nat} (hj : j ≤ p.length) (h : down ts (p.take j) = some us) : (levelsOf ts p)[j]? = some us := by
  unfold levelsOf
  rw [List.getElem?_map, List.getElem?_range (by omega), Option.map_some, h]
  rfl
theorem down_at {ts : List Tr} {p : List Int} (h : (down ts p).isSome = true) {i : Nat} (hi : i < p.length) :
    ∃ us t, down ts (p.take i) = some us ∧ 0 ≤ p[i] ∧ us[(p[i]).toNat]? = some t ∧ down ts (p.take (i + 1)) = some t.kids := by
  have e := down_append ts (p.take i) (p.drop i)
  rw [List.take_append_drop] at e
  cases h1 : down ts (p.take i) with
  | none => rw [h1] at e; rw [e] at h; cases h
  | some us =>
    rw [h1, List.drop_eq_getElem_cons hi] at e
    have e2 : down ts p = down us (p[i] :: p.drop (i + 1)) := e
    rw [down] at e2
    by_cases h0 : p[i] < 0
    · rw [if_pos h0] at e2; rw [e2] at h; cases h
    · rw [if_neg h0] at e2
      cases h2 : us[(p[i]).toNat]? with
      | none => rw [h2] at e2; rw [e2] at h; cases h
      | some t =>
        refine ⟨us, t, rfl, by omega, h2, ?_⟩
        rw [List.take_succ_eq_append_getElem hi, down_append, h1]
        show down us [p[i]] = _
        rw [down, if_neg h0, h2]
        rfl
def setAt : List Tr → List Int → List Tr → List Tr
  | _, [], xs => xs
  | ts, i :: p, xs => match ts[i.toNat]? with
    | none => ts
    | some t => ts.take i.toNat ++ [Tr.node t.mark (setAt t.kids p xs)] ++ ts.drop (i.toNat + 1)
inductive Stp where
  | mark (p : List Int) (m : Str) | cut (p : List Int) | put (p : List Int) (n : Int) (m : Str)
def Stp.path : Stp → List Int
  | .mark p _ => p
  | .cut p => p
  | .put p _ _ => p
def Stp.many : Stp → Int
  | .put _ n _ => n
  | _ => 1
def Stp.kind : Stp → Str
  | .mark _ _ => Str.ofString "mark"
  | .cut _ => Str.ofString "cut"
  | .put _ _ _ => Str.ofString "put"
def Stp.d : Stp → D
  | .mark p m => .tup [.str (Str.ofString "mark"), pathD p, .str m]
  | .cut p => .tup [.str (Str.ofString "cut"), pathD p]
  | .put p n m => .tup [.str (Str.ofString "put"), pathD p, .int n, .str m]
def Stp.instead : Stp → List Tr → List Tr
  | .mark _ m, t :: _ => [.node m t.kids]
  | .cut _, t :: _ => t.kids
  | .put _ _ m, ts => [.node m ts]
  | _, [] => []
def Stp.row (st : Stp) (row bs : List Tr) : List Tr :=
  setAt row st.path.dropLast (bs.take (st.path.getLastD 0).toNat ++ st.instead ((bs.drop (st.path.getLastD 0).toNat).take st.many.toNat) ++ bs.drop ((st.path.getLastD 0).toNat + st.many.toNat))
theorem last_int {p : List Int} (h : p ≠ []) : atI (p.map V.int) (-1) = some (.int (p.getLastD 0)) := by
  obtain ⟨q, i, rfl⟩ : ∃ q i, p = q ++ [i] := ⟨p.dropLast, p.getLast h, (List.dropLast_concat_getLast h).symm⟩
  unfold atI ixN
  rw [if_neg (by decide), if_pos (by simp only [List.length_map, List.length_append, List.length_singleton]; omega)]
  have e : ((-1 : Int) + (((q ++ [i]).map V.int).length : Int)).toNat = q.length := by simp only [List.length_map, List.length_append, List.length_singleton]; omega
  rw [Option.bind_some, e]
  simp
theorem front_ints (p : List Int) : cutV (p.map V.int) none (some (-1)) = p.dropLast.map V.int := by
  rw [cut_front, List.length_map, List.dropLast_eq_take, List.map_take]
/-- what is done with the last level -/
theorem last_of_levels {ts us : List Tr} {p : List Int} {vs : List V} {G : Hp} (r : Reps G vs ((levelsOf ts p).map rowD)) (h : down ts p = some us) : ∃ v, atI vs (-1) = some v ∧ Rep G v (rowD us) := by
  have hl := r.length
  rw [List.length_map, levelsOf_length] at hl
  have hg := levelsOf_get (Nat.le_refl _) (show down ts (p.take p.length) = some us by rw [List.take_length]; exact h)
  obtain ⟨v, hv, rv⟩ := r.get (i := p.length) (d := rowD us) (by rw [List.getElem?_map, hg]; rfl)
  refine ⟨v, ?_, rv⟩
  unfold atI ixN
  rw [if_neg (by decide), if_pos (by omega)]
  have e : ((-1 : Int) + (vs.length : Int)).toNat = p.length := by omega
  rw [Option.bind_some, e, hv]
/-- a list of ours is frozen as it stands -/
theorem Ext.freeze {G H G2 H2 : Hp} {a : Addr} {o : HO} (x : Ext G H G2 H2) (n : G2 a = none) (nh : H a = none) (h : H2 a = some o) : Ext G H (upd G2 a o) H2 := by
  refine ⟨x.g.trans (same_upd n), fun b u e => ?_, x.h, fun b u e => ?_⟩
  · by_cases hb : b = a
    · subst hb
      rw [upd_same] at e
      cases e
      exact h
    · rw [upd_ne hb] at e
      exact x.gh b u e
  · rw [upd_ne (ne_of_none e nh)]
    exact x.new b u e
end TT
namespace TT
open PySem PySem.Spec PyProof.Rows L2
/-! ### a list comprehension with one clause, at most one test, whose block captures names -/
/-- what is seen of the text: the block's names, its captured ones -/
structure CapOk (X : Cx) (scope : Scope) (N : List Str) (n : Nat) (caps : List Nat) : Prop where
  kind : scope.kind = .function
  cell : ∀ y ∈ scope.names, y.2 ≠ .cell
  names : ∀ y ∈ scope.names, y.2 = .local → scope.names.lookup y.1 = some .local
  len : N.length = n + caps.length
  free : ∀ y ∈ scope.names, y.2 = .free → X.env.scope.names.lookup y.1 = some .cell
  caps : ∀ (i j : Nat), caps[i]? = some j → ∃ y, N[n + i]? = some y ∧ X.N[j]? = some y ∧ X.env.scope.names.lookup y = some .cell ∧ scope.names.lookup y = some .free
section
variable {X : Cx}
end
end TT
namespace TT
open PySem PySem.Spec PyProof.Rows L2
end TT
namespace PySem
open Sem (wp)
section
variable {prog : Program} {w : World} {A : Around} {E : Value → Shared → Prop} {s : Shared}
theorem F.lri_no_len : typeLookup (.type "list_reverseiterator") "__len__" = pure none := by rw [typeLookup_type, builtinLookup_eq_fast]; kernel_rfl
theorem F.lri_hint : typeLookup (.type "list_reverseiterator") "__length_hint__" = pure (some (.builtin "list_reverseiterator.__length_hint__")) := by rw [typeLookup_type, builtinLookup_eq_fast]; kernel_rfl
theorem hint_rev {it l : Addr} {i : Int} {Q : Bool → Shared → Prop} (hit : s.heap.IsRevIter it l i) (h : Q false s) : wpAny (model prog w) A (Builtin.List.listLengthHint (.ref it)) Q E s := by
  unfold Builtin.List.listLengthHint
  refine wpAny_bind (wpAny_specialOf hit.typeIs F.lri_no_len ?_)
  refine wpAny_bind (wpAny_specialOf hit.typeIs F.lri_hint ?_)
  generalize hid : ("list_reverseiterator.__length_hint__" : String) = id0
  wp_delta
  rw [show splitId id0 = some ("list_reverseiterator", "__length_hint__") from by subst hid; decide +kernel]
  subst hid
  refine wpAny_bind (wpAny_isInstance (T := "list_reverseiterator") (b := true) hit.typeIs (by rw [isSubtype_type]; kernel_rfl) ?_)
  refine wpAny_ite_split (fun hab => absurd hab (by decide)) (fun _ => ?_)
  refine wpAny_ite_split (fun _ => ?_) (fun hab => absurd (by decide +kernel) hab)
  refine wpAny_ite_split (fun hab => absurd hab (by decide +kernel)) (fun _ => ?_)
  exact wpAny_pure h
theorem extend_rev {R : Result → Shared → Prop} {it l : Addr} {items : Array Value} (hh : A.handled = none) (hit : s.heap.IsRevIter it l ((items.size : Int) - 1)) (hl : s.heap.IsList l items) (hsz : items.size ≤ sizeLine)
    (S : Addr) (res : Value) (c₀ : Nat) (hS : s.heap.get? S = some { cls := .type "list", data := .seq #[] c₀ }) (hSl : S ≠ l)
    (hR : ∀ h' tk acc' c', (∀ b o, b ≠ S → b ≠ it → s.heap.get? b = some o → h'.get? b = some o) → h'.get? S = some { cls := .type "list", dict := none, data := .seq acc' c', slots := #[] } →
      ItemsOf (fun i v => items[items.size - 1 - i]? = some v) acc' items.size → R (.ok (.ret res)) { s with heap := h', toks := tk }) :
    wpAny (model prog w) A.in1 (Builtin.List.listExtendWith (.ref S) (.ref it) res)
      (fun fin s' => match fin with | .done f => R (.ok f) s' | .again c' => c'.quiet = true ∧ codeAny (model prog w) A c' R s') (fun e s' => R (.error e) s') s := by
  obtain ⟨oi, hoi, hci, hdi⟩ := id hit
  have hSi : S ≠ it := fun e => by
    rw [e, hoi] at hS
    injection hS with e1
    rw [e1] at hci
    exact absurd (show Value.type "list" = Value.type "list_reverseiterator" from hci) (by decide)
  have hli : l ≠ it := fun e => by
    obtain ⟨o2, h2, c2, _⟩ := hl
    rw [e, hoi] at h2
    injection h2 with e1
    rw [e1, c2] at hci
    exact absurd hci (by decide)
  have hSf : S ∉ [it, l] := fun hm => by
    rcases List.mem_cons.mp hm with e | e
    · exact hSi e
    · exact hSl (List.mem_singleton.mp e)
  unfold Builtin.List.listExtendWith
  refine wpAny_bind (wpAny_typeOf (T := "list_reverseiterator") hit.typeIs ?_)
  have h1 : Builtin.List.listSameRef (.ref S) (.ref it) = false := by simp [Builtin.List.listSameRef, hSi]
  have h2 : (Value.type "list_reverseiterator" == Value.type "list") = false := by decide
  have h3 : (Value.type "list_reverseiterator" == Value.type "tuple") = false := by decide
  simp only [h1, h2, h3, Bool.or_false, Bool.false_eq_true, if_false]
  refine wpAny_bind (wpAny_pyIter_revIter hit ?_)
  refine wpAny_bind (wpAny_holding (hint_rev hit ?_))
  refine wpAny_ite_split (fun hab => absurd hab (by decide +kernel)) (fun _ => ?_)
  have hst : items.size - items.size ≤ items.size := by omega
  refine wpAny_pure ⟨plainId_quiet F.plain_extend_loop _, codeAny_extend_loopS ((Walks.listRev (prog := prog) (w := w) (A := A.in1) hh it l hli items).toS) hsz _ hSf _ items.size 0 _ _ _ rfl (Nat.zero_le _) ⟨Nat.zero_le _, by simpa using hit, hl⟩ hS (ItemsOf.nil _) fun s' acc' c' hm hS' hacc => ?_⟩
  rw [Moved.eq_with hm]
  refine hR s'.heap s'.toks acc' c' (fun b ob hb hb2 e => hm.heap b ob (fun hmem => ?_) e) hS' hacc
  rcases List.mem_cons.mp hmem with e' | hmem
  · exact hb e'
  · exact hb2 (List.mem_singleton.mp hmem)
theorem list_init_rev {R : Result → Shared → Prop} {it l : Addr} {items : Array Value} (hh : A.handled = none) (hit : s.heap.IsRevIter it l ((items.size : Int) - 1)) (hl : s.heap.IsList l items) (hsz : items.size ≤ sizeLine)
    (S : Addr) (hS : s.heap.get? S = some { cls := .type "list", data := .seq #[] }) (hSl : S ≠ l)
    (hR : ∀ h' tk acc' c', (∀ b o, b ≠ S → b ≠ it → s.heap.get? b = some o → h'.get? b = some o) → h'.get? S = some { cls := .type "list", dict := none, data := .seq acc' c', slots := #[] } →
      ItemsOf (fun i v => items[items.size - 1 - i]? = some v) acc' items.size → R (.ok (.ret .none)) { s with heap := h', toks := tk }) :
    wpAny (model prog w) A.in1 (Builtin.«list.__init__» ⟨[.ref S, .ref it], []⟩)
      (fun fin s' => match fin with | .done f => R (.ok f) s' | .again c' => c'.quiet = true ∧ codeAny (model prog w) A c' R s') (fun e s' => R (.error e) s') s := by
  show wpAny _ _ (do let old ← Builtin.List.listItems (.ref S); Builtin.List.listUpdate (.ref S) (fun _ => #[]); letGo old.toList.reverse; Builtin.List.listExtendWith (.ref S) (.ref it) .none) _ _ s
  have hSi : S ≠ it := fun e => by
    obtain ⟨oi, hoi, hci, hdi⟩ := hit
    rw [e, hoi] at hS
    injection hS with e1
    rw [e1] at hci
    exact absurd (show Value.type "list" = Value.type "list_reverseiterator" from hci) (by decide)
  refine wpAny_bind ?_
  unfold Builtin.List.listItems
  refine wpAny_bind (wpAny_seqItems hS rfl (wpAny_pure ?_))
  show wpAny _ _ (updateSeq S (fun _ => #[]) >>= fun _ => letGo (#[] : Array Value).toList.reverse >>= fun _ => Builtin.List.listExtendWith (.ref S) (.ref it) .none) _ _ s
  refine wpAny_bind (wpAny_updateSeq hS rfl ?_)
  have hS₂ := Heap.get?_update_self (Obj.mapSeq (fun _ => (#[] : Array Value))) hS rfl
  have oth : ∀ b o, b ≠ S → s.heap.get? b = some o → (s.heap.update S (Obj.mapSeq (fun _ => (#[] : Array Value)))).get? b = some o :=
    fun b o hb e => (Heap.get?_update_other _ _ (Ne.symm hb)).trans e
  refine wpAny_bind (wpAny_letGo ?_)
  refine extend_rev hh (hit.at fun o e => oth it o (Ne.symm hSi) e) (hl.at fun o e => oth l o (Ne.symm hSl) e) hsz S .none _ hS₂ hSl fun h' tk acc' c' hk hS' hacc => ?_
  exact hR h' tk acc' c' (fun b o hb hb2 e => hk b o hb hb2 (oth b o hb e)) hS' hacc
theorem call_list_rev {Q : Value → Shared → Prop} {it l : Addr} {items : Array Value} (hh : A.handled = none) (hit : s.heap.IsRevIter it l ((items.size : Int) - 1)) (hl : s.heap.IsList l items) (hsz : items.size ≤ sizeLine)
    (hQ : ∀ h' tk acc' c', (∀ b o, b ≠ it → s.heap.get? b = some o → h'.get? b = some o) →
      h'.get? s.heap.objs.size = some { cls := .type "list", dict := none, data := .seq acc' c', slots := #[] } → ItemsOf (fun i v => items[items.size - 1 - i]? = some v) acc' items.size → Q (.ref s.heap.objs.size) { s with heap := h', toks := tk }) :
    wpAny (model prog w) A (call (.type "list") [.ref it]) Q E s := by
  refine callType_codes (Q₁ := fun obj s₁ => obj = .ref s.heap.objs.size ∧ s₁ = { s with heap := s.heap.push { cls := .type "list", data := .seq #[] } }) F.called_list (F.typeCall_list_1 _) F.entry_list_init
    (code_list_new _ ⟨rfl, rfl⟩) fun obj s₁ h₁ => ?_
  obtain ⟨rfl, rfl⟩ := h₁
  have hS : (s.heap.push { cls := .type "list", data := .seq #[] }).get? s.heap.objs.size = some { cls := .type "list", data := .seq #[] } := Heap.get?_push_size _ rfl
  have hSl : s.heap.objs.size ≠ l := fun e => by
    obtain ⟨o2, h2, _⟩ := hl
    exact absurd (Heap.lt_size h2) (by rw [← e]; exact Nat.lt_irrefl _)
  refine ⟨⟨_, hS, rfl⟩, F.args_list_init_2 _ _, list_init_rev (A := A.in1) hh (hit.at fun o e => Heap.get?_push_of_some _ e) (hl.at fun o e => Heap.get?_push_of_some _ e) hsz _ hS hSl fun h' tk acc' c' hk hS' hacc => ?_⟩
  exact ⟨rfl, hQ h' tk acc' c' (fun b o hb e => hk b o (Nat.ne_of_lt (Heap.lt_size e)) hb (Heap.get?_push_of_some _ e)) hS' hacc⟩
end
end PySem
namespace TT
open PySem PySem.Spec PyProof.Rows L2
theorem vals_app {xs ys : List V} {us ws : List Value} (a : Vals xs us) (b : Vals ys ws) : Vals (xs ++ ys) (us ++ ws) := by
  induction a with
  | nil => exact b
  | cons r _ ih => exact .cons r ih
theorem vals_rev {xs : List V} {us : List Value} (a : Vals xs us) : Vals xs.reverse us.reverse := by
  induction a with
  | nil => exact .nil
  | cons r _ ih =>
    rw [List.reverse_cons, List.reverse_cons]
    exact vals_app ih (.cons r .nil)
theorem items_rev {its : List Value} {acc : Array Value} (h : ItemsOf (fun i v => its.toArray[its.toArray.size - 1 - i]? = some v) acc its.toArray.size) : acc.toList = its.reverse := by
  obtain ⟨h1, h2⟩ := h
  have h1 : acc.size = its.length := by rw [h1]; exact List.size_toArray ..
  refine List.ext_getElem? fun i => ?_
  by_cases hi : i < its.length
  · have hlt : i < acc.size := by omega
    have e := h2 i acc[i] (Array.getElem?_eq_getElem hlt)
    rw [List.getElem?_reverse hi, Array.getElem?_toList, Array.getElem?_eq_getElem hlt]
    simpa using e.symm
  · rw [List.getElem?_eq_none (by rw [Array.length_toList]; omega), List.getElem?_eq_none (by rw [List.length_reverse]; omega)]
section
variable {X : Cx}
def tListRev (K : PySem.W.Frag) (ta : TA) : TE := fun σ H Q => ta σ H fun vs H1 => ∃ a xs, vs = [.ref a] ∧ SqL K H1 a xs ∧ ∀ l, H1 l = none → Q (.ref l) (upd H1 l (.lst xs.reverse))
theorem pe_listRev {e : Expr} {ta : TA} {p q pos pos2 : Pos} (hg : Gl X "reversed") (hm : X.mg "reversed" = none) (hg2 : Gl X "list") (hm2 : X.mg "list" = none) (hd : X.A.handled = none) (ha : PA X [e] ta) (hs : starEach [e] X.env = [(false, eval e X.env)] := by rfl)
    (hs2 : starEach [.Call (.Name "reversed" p) [e] [] pos] X.env = [(false, eval (.Call (.Name "reversed" p) [e] [] pos) X.env)] := by rfl) :
    PE X (.Call (.Name "list" q) [.Call (.Name "reversed" p) [e] [] pos] [] pos2) (tListRev X.K ta) := by
  intro pins s σ H Q I h
  refine wpAny_Call_Name_kw (ld_blt I hg2 hm2 bt_list ?_)
  refine PyProof.Rows.callWith_type1 ?_ hs2 rfl
  rw [hs2]
  show wpAny _ _ (spliced ((false, eval (.Call (.Name "reversed" p) [e] [] pos) X.env) :: [])) _ _ s
  refine Calls.spliced_cons ?_
  refine Call_ (ld_blt I hg hm bt_reversed (PyProof.Rows.callWith_type1 (thn (ha pos pins s σ H _ I h) fun us s1 ⟨vs, H1, I1, r1, q1⟩ => ?_) hs rfl))
  obtain ⟨a, xs, e, hq, q⟩ := q1
  subst e
  cases r1 with
  | cons r rr =>
    cases rr
    cases r
    obtain ⟨its, rv, pl, hz⟩ := I1.list hq
    have hl := rv.length
    refine call_reversed_list pl.isList (Calls.spliced_nil ?_)
    have hit : (s1.heap.push (revObj a ((its.toArray.size : Int) - 1))).IsRevIter s1.heap.objs.size a ((its.toArray.size : Int) - 1) := ⟨_, Heap.get?_push_size _ rfl, rfl, rfl⟩
    refine call_list_rev hd hit (pl.isList.at fun o e => Heap.get?_push_of_some _ e) (by rw [List.size_toArray]; omega) fun h' tk acc' c' kp e hacc => ?_
    have el := items_rev hacc
    have rr := vals_rev rv
    rw [← el] at rr
    have kp1 : ∀ b u, s1.heap.get? b = some u → h'.get? b = some u := fun b u eb => kp b u (Nat.ne_of_lt (Heap.lt_size eb)) (Heap.get?_push_of_some _ eb)
    have hfr : H1 (s1.heap.push (revObj a ((its.toArray.size : Int) - 1))).objs.size = none := I1.hok.fresh (by rw [Heap.size_push]; omega)
    refine ⟨.ref (s1.heap.push (revObj a ((its.toArray.size : Int) - 1))).objs.size, _, I1.laid (t' := tk) (o := .lst xs.reverse) kp1 (by rw [Heap.size_push]; omega) (show ObjOk X.prog X.w _ h' _ (.lst xs.reverse) from ⟨by rw [List.length_reverse]; exact hz, acc'.toList, c', rr, by simpa using e⟩), rfl, q _ hfr⟩
end
end TT
namespace TX
open PySem PySem.Builtin PySem.Builtin.Str PySem.StrLaws TT

/-! ### replace as a function of the signs -/
theorem at_iff {x y : Str} {i : Nat} (hw : 1 ≤ y.length) : At x y x.length i ↔ y.cps.toList <+: x.cps.toList.drop i := by
  have hl : x.length = x.cps.toList.length := by simp [Str.length]
  have hy : y.length = y.cps.toList.length := by simp [Str.length]
  unfold At
  rw [subAt_eq, beq_iff_eq, List.prefix_iff_eq_take, hl, hy]
  constructor
  · rintro ⟨_, h⟩
    exact h.symm
  · intro h
    refine ⟨?_, h.symm⟩
    have := congrArg List.length h
    rw [List.length_take, List.length_drop] at this
    omega
section
variable {y z : List Nat} {f : List Nat → List Nat}
structure RepF (y z : List Nat) (f : List Nat → List Nat) : Prop where
  nil : f [] = []
  hit : ∀ r, f (y ++ r) = z ++ f r
  miss : ∀ c r, ¬ y <+: c :: r → f (c :: r) = c :: f r
theorem RepF.walk (F : RepF y z f) : ∀ (n : Nat) (l : List Nat), (∀ k, k < n → ¬ y <+: l.drop k) → f l = l.take n ++ f (l.drop n)
  | 0, l, _ => by simp
  | n + 1, [], _ => by simp [F.nil]
  | n + 1, c :: r, h => by
    have h0 := h 0 (Nat.succ_pos n)
    rw [List.drop_zero] at h0
    have ih := F.walk n r fun k hk => by
      have := h (k + 1) (by omega)
      rwa [List.drop_succ_cons] at this
    rw [F.miss c r h0, List.take_succ_cons, List.drop_succ_cons, List.cons_append, ← ih]
end
theorem join_two (z p : Str) (q : List Str) (hq : q ≠ []) : (Str.join z (p :: q)).cps.toList = p.cps.toList ++ (z.cps.toList ++ (Str.join z q).cps.toList) := by
  cases q with
  | nil => exact absurd rfl hq
  | cons a r =>
    show ((p ++ z) ++ Str.join z (a :: r)).cps.toList = _
    rw [Str.cps_append, Str.cps_append, Array.toList_append, Array.toList_append, List.append_assoc]
theorem rep_chain {x y z : Str} {f : List Nat → List Nat} (hw : 1 ≤ y.length) (F : RepF y.cps.toList z.cps.toList f) : ∀ (cuts : List Nat) (a e : Nat), ChainG x y x.length a cuts e → (∀ k, e ≤ k → ¬ At x y x.length k) →
    (Str.join z (partsFrom x y.length a cuts)).cps.toList = f (x.cps.toList.drop a)
  | [], a, e, h, hn => by
    have h : e = a := h
    subst h
    show (strSub x e x.length).cps.toList = _
    have hl : x.length = x.cps.toList.length := by simp [Str.length]
    rw [strSub_toList, List.take_of_length_le (by rw [List.length_drop, hl]; omega)]
    have w := F.walk ((x.cps.toList.drop e).length) (x.cps.toList.drop e) fun k _ => by
      rw [List.drop_drop, ← at_iff hw]
      exact hn _ (by omega)
    rw [w, List.take_length, List.drop_length, F.nil, List.append_nil]
  | c :: r, a, e, h, hn => by
    obtain ⟨h1, h2, h3, h4⟩ := h
    have ih := rep_chain hw F r (c + y.length) e h4 hn
    rw [partsFrom, join_two _ _ _ (by obtain ⟨p, q, e⟩ := partsFrom_ne x y.length (c + y.length) r; rw [e]; exact List.cons_ne_nil _ _), ih, strSub_toList]
    have w := F.walk (c - a) (x.cps.toList.drop a) fun k hk => by
      rw [List.drop_drop, ← at_iff hw]
      exact h3 _ (by omega) (by omega)
    rw [w, List.drop_drop, show a + (c - a) = c by omega]
    congr 1
    obtain ⟨t, ht⟩ := (at_iff hw).mp h2
    have e2 : x.cps.toList.drop (c + y.length) = t := by
      rw [← List.drop_drop, ← ht, show y.length = y.cps.toList.length by simp [Str.length], List.drop_left]
    rw [← ht, F.hit, e2]
theorem replace_eq {x y z : Str} {f : List Nat → List Nat} (F : RepF y.cps.toList z.cps.toList f) (hw : 1 ≤ y.length) : (Txt.replace x y z).cps.toList = f x.cps.toList := by
  obtain ⟨e, hc, hn⟩ := occ_tight x y hw
  unfold Txt.replace
  have hy0 : (y.length == 0) = false := by rw [beq_eq_false_iff_ne]; omega
  rw [hy0, Bool.false_and, Bool.or_false]
  have key := rep_chain hw F _ 0 e hc hn
  rw [List.drop_zero] at key
  split
  · rename_i h
    rw [List.isEmpty_iff] at h
    rw [h] at key
    rw [← key]
    show _ = (strSub x 0 x.length).cps.toList
    rw [strSub_toList, List.drop_zero, List.take_of_length_le (by simp [Str.length])]
  · rw [glued_eq_join, partsBetween_eq]
    exact key
end TX
namespace TX
open PySem PySem.Builtin PySem.Builtin.Str PySem.StrLaws TT

/-! ### the line of a row -/
mutual
def txt : Tr → List Nat
  | .node m ks => m.cps.toList ++ (if ks.isEmpty = true then [] else 40 :: (txts false ks ++ [41]))
/-- the trees of a row, ahead of the first a blank where b says so -/
def txts : Bool → List Tr → List Nat
  | _, [] => []
  | b, t :: ts => (if b = true then [32] else []) ++ (txt t ++ txts true ts)
end
def low (c : Nat) : Bool := decide (97 ≤ c) && decide (c ≤ 122)
def Wrd (m : List Nat) : Prop := m ≠ [] ∧ ∀ c ∈ m, low c = true
mutual
def good : Tr → Prop
  | .node m ks => Wrd m.cps.toList ∧ goods ks
def goods : List Tr → Prop
  | [] => True
  | t :: ts => good t ∧ goods ts
end
abbrev leaf (w : List Nat) : Tr := .node ⟨w.toArray⟩ []
theorem txt_leaf (w : List Nat) : txt (leaf w) = w := by simp [txt]
theorem goods_append : ∀ {a b : List Tr}, goods (a ++ b) ↔ goods a ∧ goods b
  | [], b => by simp [goods]
  | t :: a, b => by simp [goods, goods_append (a := a) (b := b), and_assoc]
theorem goods_one {t : Tr} : goods [t] ↔ good t := by simp [goods]
theorem good_leaf {w : List Nat} (h : Wrd w) : good (leaf w) := by
  simp only [good, goods, and_true]
  exact h
theorem txts_append : ∀ (b : Bool) (x y : List Tr), txts b (x ++ y) = txts b x ++ txts (b || !x.isEmpty) y
  | b, [], y => by simp [txts]
  | b, t :: x, y => by
    rw [List.cons_append, txts, txts_append true x y, txts]
    simp
theorem txt_node (m : Str) {ks : List Tr} (h : ks ≠ []) : txt (.node m ks) = m.cps.toList ++ 40 :: (txts false ks ++ [41]) := by
  rw [txt, if_neg (by rw [List.isEmpty_iff]; exact h)]
/-- a sign of a line -/
def sgn (c : Nat) : Bool := low c || c == 40 || c == 41 || c == 32
mutual
theorem txt_sgn : ∀ t : Tr, good t → ∀ c ∈ txt t, sgn c = true
  | .node m ks, h, c, hc => by
    rw [good] at h
    rw [txt, List.mem_append] at hc
    rcases hc with hc | hc
    · simp [sgn, h.1.2 c hc]
    · split at hc
      · cases hc
      · rcases List.mem_cons.mp hc with rfl | hc
        · rfl
        · rcases List.mem_append.mp hc with hc | hc
          · exact txts_sgn false ks h.2 c hc
          · rw [List.mem_singleton.mp hc]; rfl
theorem txts_sgn : ∀ (b : Bool) (ts : List Tr), goods ts → ∀ c ∈ txts b ts, sgn c = true
  | _, [], _, c, hc => by rw [txts] at hc; cases hc
  | b, t :: ts, h, c, hc => by
    rw [goods] at h
    rw [txts] at hc
    rcases List.mem_append.mp hc with hc | hc
    · cases b
      · cases hc
      · rw [if_pos rfl] at hc; rw [List.mem_singleton.mp hc]; rfl
    · rcases List.mem_append.mp hc with hc | hc
      · exact txt_sgn t h.1 c hc
      · exact txts_sgn true ts h.2 c hc
end

/-! ### what read asks of a line -/
def okL (p c : Nat) : Bool := ((p == 40 || p == 32) && c == 97) || (p == 97 && (c == 97 || c == 40 || c == 41 || c == 32)) || (p == 41 && (c == 41 || c == 32))
def kind (c : Nat) : Nat := if low c = true then 97 else c
def nbr : Nat → List Nat → Bool
  | _, [] => true
  | p, c :: r => okL p (kind c) && nbr (kind c) r
def dep (d : Int) (c : Nat) : Int := if c = 40 then d + 1 else if c = 41 then d - 1 else d
def brk : Int → List Nat → Bool
  | d, [] => decide (d = 0)
  | d, c :: r => decide (0 ≤ dep d c) && brk (dep d c) r
def chk : Nat → Int → List Nat → Bool
  | p, d, [] => okL p 41 && decide (d = 0)
  | p, d, c :: r => okL p (kind c) && (decide (0 ≤ dep d c) && chk (kind c) (dep d c) r)
theorem chk_eq : ∀ (r : List Nat) (p : Nat) (d : Int), chk p d r = (nbr p (r ++ [41]) && brk d r)
  | [], p, d => by simp [chk, nbr, brk, kind, low]
  | c :: r, p, d => by
    rw [chk, chk_eq r, List.cons_append, nbr, brk]
    cases okL p (kind c) <;> cases decide (0 ≤ dep d c) <;> simp
theorem kind_low {c : Nat} (h : low c = true) : kind c = 97 := by rw [kind, if_pos h]
theorem kind_not {c : Nat} (h : ¬ low c = true) : kind c = c := by rw [kind, if_neg h]
theorem dep_low {c : Nat} (d : Int) (h : low c = true) : dep d c = d := by
  simp only [low, Bool.and_eq_true, decide_eq_true_eq] at h
  rw [dep, if_neg (by omega), if_neg (by omega)]

/-! ### the words of a line, and the levels that they build -/
def flush (w : List Nat) : List Str := if w = [] then [] else [⟨w.toArray⟩]
def spl : List Nat → List Nat → List Str
  | w, [] => flush w
  | w, c :: r => if c = 40 then flush w ++ (⟨#[40]⟩ :: spl [] r) else if c = 41 then flush w ++ (⟨#[41]⟩ :: spl [] r) else if c = 32 then flush w ++ spl [] r else spl (w ++ [c]) r
def lvStep (lv : List (List Tr)) (w : Str) : Option (List (List Tr)) :=
  if w = ⟨#[40]⟩ then some ([] :: lv)
  else if w = ⟨#[41]⟩ then (match lv with
    | ts :: row :: fs => (match row.getLast? with
      | some t => some ((row.dropLast ++ [.node t.mark ts]) :: fs)
      | none => none)
    | _ => none)
  else (match lv with
    | row :: fs => some ((row ++ [.node w []]) :: fs)
    | [] => none)
def lvRun : List (List Tr) → List Str → Option (List (List Tr))
  | lv, [] => some lv
  | lv, w :: ws => (lvStep lv w).bind fun lv' => lvRun lv' ws
theorem run_open (lv : List (List Tr)) (ws : List Str) : lvRun lv (⟨#[40]⟩ :: ws) = lvRun ([] :: lv) ws := by
  rw [lvRun, lvStep.eq_def, if_pos rfl]; rfl
theorem run_close (ts r0 : List Tr) (t : Tr) (fs : List (List Tr)) (ws : List Str) : lvRun (ts :: (r0 ++ [t]) :: fs) (⟨#[41]⟩ :: ws) = lvRun ((r0 ++ [.node t.mark ts]) :: fs) ws := by
  rw [lvRun, lvStep.eq_def, if_neg (by decide), if_pos rfl]
  simp
theorem run_word {w : List Nat} (h : Wrd w) (row : List Tr) (fs : List (List Tr)) (ws : List Str) : lvRun (row :: fs) (⟨w.toArray⟩ :: ws) = lvRun ((row ++ [leaf w]) :: fs) ws := by
  obtain ⟨hn, hl⟩ := h
  have key : ∀ c : Nat, low c = false → (⟨w.toArray⟩ : Str) ≠ ⟨#[c]⟩ := by
    intro c hc e
    injection e with e
    have e2 : w = [c] := by simpa using congrArg Array.toList e
    subst e2
    have := hl c List.mem_cons_self
    rw [hc] at this
    cases this
  rw [lvRun, lvStep.eq_def, if_neg (key 40 rfl), if_neg (key 41 rfl)]
  rfl
/-- the frames below the top: each ends in the knot whose bracket stands open -/
def Frs (fs : List (List Tr)) : Prop := ∀ f ∈ fs, ∃ r0 m, f = r0 ++ [leaf m] ∧ goods r0 ∧ Wrd m
def preT : List (List Tr) → List Nat
  | [] => []
  | f :: fs => preT fs ++ (txts false f ++ [40])
def blank (cur : List Tr) : List Nat := if cur = [] then [] else [32]
theorem txts_snoc (cur : List Tr) (t : Tr) : txts false (cur ++ [t]) = txts false cur ++ (blank cur ++ txt t) := by
  rw [txts_append]
  cases cur <;> simp [txts, blank]
/-- what comes of a line -/
def Made (x : List Nat) (lv : List (List Tr)) (ws : List Str) : Prop := ∃ row, row ≠ [] ∧ goods row ∧ x = txts false row ∧ lvRun lv ws = some [row]
theorem Made.of {x x' : List Nat} {lv lv' : List (List Tr)} {ws ws' : List Str} (h : Made x lv ws) (hx : x' = x) (hr : lvRun lv' ws' = lvRun lv ws) : Made x' lv' ws' := by
  obtain ⟨row, a, b, c, d⟩ := h
  exact ⟨row, a, b, hx.trans c, hr.trans d⟩
theorem spl_low {c : Nat} (hl : low c = true) (w r : List Nat) : spl w (c :: r) = spl (w ++ [c]) r := by
  simp only [low, Bool.and_eq_true, decide_eq_true_eq] at hl
  rw [spl, if_neg (by omega), if_neg (by omega), if_neg (by omega)]
theorem read_made : ∀ (r : List Nat) (fs : List (List Tr)) (cur : List Tr), Frs fs → goods cur →
    (∀ p, p = 40 ∨ p = 32 → chk p fs.length r = true → Made (preT fs ++ (txts false cur ++ (blank cur ++ r))) (cur :: fs) (spl [] r)) ∧
    (∀ w, Wrd w → chk 97 fs.length r = true → Made (preT fs ++ (txts false (cur ++ [leaf w]) ++ r)) (cur :: fs) (spl w r)) ∧
    (cur ≠ [] → chk 41 fs.length r = true → Made (preT fs ++ (txts false cur ++ r)) (cur :: fs) (spl [] r))
  | [], fs, cur, hf, hc => by
    refine ⟨fun p hp h => ?_, fun w hw h => ?_, fun h0 h => ?_⟩
    · rcases hp with rfl | rfl <;> simp [chk, okL] at h
    · have hz : fs = [] := by
        simp [chk] at h
        exact h.2
      subst hz
      refine ⟨cur ++ [leaf w], by simp, goods_append.mpr ⟨hc, goods_one.mpr (good_leaf hw)⟩, by simp [preT], ?_⟩
      rw [spl, flush, if_neg hw.1, run_word hw]; rfl
    · have hz : fs = [] := by
        simp [chk] at h
        exact h.2
      subst hz
      exact ⟨cur, h0, hc, by simp [preT], rfl⟩
  | c :: r, fs, cur, hf, hc => by
    -- a bracket closes over the trees ts
    have close : ∀ ts : List Tr, ts ≠ [] → goods ts → c = 41 → 0 ≤ dep fs.length c → chk 41 (dep fs.length c) r = true →
        Made (preT fs ++ (txts false ts ++ 41 :: r)) (ts :: fs) (⟨#[41]⟩ :: spl [] r) := by
      intro ts h0 hg hc41 hd h
      subst hc41
      cases fs with
      | nil => simp [dep] at hd
      | cons f fs =>
        obtain ⟨r0, m, rfl, hr0, hm⟩ := hf f List.mem_cons_self
        have hd2 : dep ((r0 ++ [leaf m]) :: fs).length 41 = fs.length := by simp [dep]
        rw [hd2] at h
        have ih := (read_made r fs (r0 ++ [.node ⟨m.toArray⟩ ts]) (fun f h => hf f (List.mem_cons_of_mem _ h)) (goods_append.mpr ⟨hr0, goods_one.mpr (by rw [good]; exact ⟨hm, hg⟩)⟩)).2.2 (by simp) h
        refine ih.of ?_ (run_close _ _ _ _ _)
        rw [preT, txts_snoc, txts_snoc, txt_leaf, txt_node _ h0]
        simp
    have blnk : ∀ ts : List Tr, ts ≠ [] → goods ts → c = 32 → chk c (dep fs.length c) r = true → Made (preT fs ++ (txts false ts ++ c :: r)) (ts :: fs) (spl [] r) := by
      intro ts h0 hg hc32 h
      subst hc32
      have ih := (read_made r fs ts hf hg).1 32 (.inr rfl) h
      refine ih.of ?_ rfl
      rw [blank, if_neg h0]
      simp
    refine ⟨fun p hp h => ?_, fun w hw h => ?_, fun h0 h => ?_⟩
    · rw [chk, Bool.and_eq_true, Bool.and_eq_true] at h
      obtain ⟨h1, h2, h3⟩ := h
      have hl : low c = true := by
        by_cases hl : low c = true
        · exact hl
        · rw [kind_not hl] at h1
          have : c = 97 := by rcases hp with rfl | rfl <;> simpa [okL] using h1
          subst this
          exact absurd rfl hl
      rw [kind_low hl, dep_low _ hl] at h3
      have hw : Wrd [c] := ⟨by simp, fun d hd => by rw [List.mem_singleton.mp hd]; exact hl⟩
      have ih := (read_made r fs cur hf hc).2.1 [c] hw h3
      refine ih.of ?_ ?_
      · rw [txts_snoc, txt_leaf]
        simp
      · rw [spl_low hl]; rfl
    · rw [chk, Bool.and_eq_true, Bool.and_eq_true] at h
      obtain ⟨h1, h2, h3⟩ := h
      by_cases hl : low c = true
      · rw [kind_low hl, dep_low _ hl] at h3
        have hw' : Wrd (w ++ [c]) := ⟨by simp, fun d hd => by
          rcases List.mem_append.mp hd with hd | hd
          · exact hw.2 d hd
          · rw [List.mem_singleton.mp hd]; exact hl⟩
        have ih := (read_made r fs cur hf hc).2.1 (w ++ [c]) hw' h3
        refine ih.of ?_ ?_
        · rw [txts_snoc, txts_snoc, txt_leaf, txt_leaf]
          simp
        · rw [spl_low hl]
      · rw [kind_not hl] at h1 h3
        have hfl : flush w = [⟨w.toArray⟩] := by rw [flush, if_neg hw.1]
        have hg : goods (cur ++ [leaf w]) := goods_append.mpr ⟨hc, goods_one.mpr (good_leaf hw)⟩
        have h0 : cur ++ [leaf w] ≠ [] := by simp
        have h4 : c = 97 ∨ c = 40 ∨ c = 41 ∨ c = 32 := by simpa [okL, or_assoc] using h1
        rcases h4 with rfl | rfl | rfl | rfl
        · exact absurd rfl hl
        · have ih := (read_made r ((cur ++ [leaf w]) :: fs) [] (fun f h => by
            rcases List.mem_cons.mp h with rfl | h
            · exact ⟨cur, w, rfl, hc, hw⟩
            · exact hf f h) trivial).1 40 (.inl rfl) (by simpa [dep] using h3)
          refine ih.of ?_ ?_
          · simp [preT, blank, txts]
          · rw [spl, if_pos rfl, hfl, List.singleton_append, run_word hw, run_open]
        · refine (close _ h0 hg rfl (by simpa using h2) h3).of rfl ?_
          rw [spl, if_neg (by decide), if_pos rfl, hfl, List.singleton_append, run_word hw]
        · refine (blnk _ h0 hg rfl h3).of rfl ?_
          rw [spl, if_neg (by decide), if_neg (by decide), if_pos rfl, hfl, List.singleton_append, run_word hw]
    · rw [chk, Bool.and_eq_true, Bool.and_eq_true] at h
      obtain ⟨h1, h2, h3⟩ := h
      have hl : ¬ low c = true := by
        intro hl
        rw [kind_low hl] at h1
        cases h1
      rw [kind_not hl] at h1 h3
      have h4 : c = 41 ∨ c = 32 := by simpa [okL] using h1
      rcases h4 with rfl | rfl
      · refine (close _ h0 hc rfl (by simpa using h2) h3).of rfl ?_
        rw [spl, if_neg (by decide), if_pos rfl, flush, if_pos rfl, List.nil_append]
      · refine (blnk _ h0 hc rfl h3).of rfl ?_
        rw [spl, if_neg (by decide), if_neg (by decide), if_pos rfl, flush, if_pos rfl, List.nil_append]
/-- a line that fits is the line of a row, which its words build -/
theorem read_row {l : List Nat} (h : chk 40 0 l = true) : Made l [[]] (spl [] l) := by
  have := (read_made l [] [] (fun _ h => nomatch h) trivial).1 40 (.inl rfl) h
  simpa [preT, txts, blank] using this
end TX
namespace TX
open PySem PySem.Spec PyProof.Rows L2 TT

/-! ### a run never takes a token back -/
theorem runs_toks {M : Model} {Γ : PySem.Ctx} {p : Pos} {t : Sem Fin} {fs : List Frame} {s s' : Shared} {e : End} (h : Runs M Γ p t fs s e s') : s.toks ≤ s'.toks := by
  induction h with
  | done => exact Nat.le_refl _
  | raise => exact Nat.le_refl _
  | yield => exact Nat.le_refl _
  | fresh _ ih => exact Nat.le_trans (Nat.le_succ _) ih
  | again _ _ ih => exact ih
  | rule _ ih => exact ih
  | «at» _ ih => exact ih
  | load _ _ ih => exact ih
  | update _ _ ih => exact ih
  | loadIfAlive _ ih => exact ih
  | point _ ih => exact ih
  | alloc _ ih => exact ih
  | ask _ ih => exact ih
  | choose _ _ ih => exact ih
  | os _ ih => exact ih
  | handled _ ih => exact ih
  | genState _ _ ih => exact ih
  | stack _ ih => exact ih
  | thread _ ih => exact ih
  | newGen _ ih => exact ih
  | call _ _ ih1 ih2 => exact Nat.le_trans ih1 ih2
  | callSusp _ ih => exact ih
  | resumeFresh _ _ _ _ ih1 ih2 => exact Nat.le_trans ih1 ih2
  | resumeSuspended _ _ _ _ ih1 ih2 => exact Nat.le_trans ih1 ih2
  | resumeJustStarted _ _ _ ih => exact ih
  | resumeThrowFresh _ _ ih => exact ih
  | resumeRunning _ _ ih => exact ih
  | resumeFinished _ _ ih => exact ih
  | segRet _ _ ih1 ih2 => exact Nat.le_trans ih1 ih2
  | segGen _ _ ih1 ih2 => exact Nat.le_trans ih1 ih2
  | segSuspOut _ _ ih => exact ih
  | segSuspGen _ _ _ _ ih1 ih2 => exact Nat.le_trans ih1 ih2
theorem wakes_toks {M : Model} {Γ : PySem.Ctx} {p : Pos} {g : Nat} {r : Resume} {s s' : Shared} {res : GenResult} (h : Wakes M Γ p g r s res s') : s.toks ≤ s'.toks := by
  unfold Wakes at h
  split at h
  · exact h.elim
  · split at h
    · obtain ⟨_, s1, h1, _, _, rfl⟩ := h
      have h2 := runs_toks h1
      exact h2
    · rw [h.2]; exact Nat.le_refl _
    · rw [h.2]; exact Nat.le_refl _
  · obtain ⟨_, s1, h1, _, _, rfl⟩ := h
    have h2 := runs_toks h1
    exact h2
  · rw [h.2]; exact Nat.le_refl _
  · rw [h.2]; exact Nat.le_refl _
theorem wp_toks {α : Type} {M : Model} {Γ : PySem.Ctx} (t : Sem α) : ∀ {Q : α → Pos → Shared → Prop} {E : Value → Pos → Shared → Prop} {p : Pos} {s : Shared}, Sem.wp M Γ t Q E p s →
    Sem.wp M Γ t (fun a p s' => s.toks ≤ s'.toks ∧ Q a p s') (fun e p s' => s.toks ≤ s'.toks ∧ E e p s') p s := by
  induction t with
  | pure x => intro Q E p s h; exact ⟨Nat.le_refl _, h⟩
  | raise v => intro Q E p s h; exact ⟨Nat.le_refl _, h⟩
  | unsupported | finish | yield | fork | await | register => intro Q E p s h; exact h
  | rule _ k ih | «at» _ k ih | alloc _ k ih | loadIfAlive _ k ih | point _ k ih | ask k ih | os _ _ k ih | handled _ k ih | newGen _ k ih | stack k ih | thread k ih => intro Q E p s h; exact ih _ h
  | fresh k ih =>
    intro Q E p s h
    exact Sem.wp_mono M Γ _ (fun _ _ _ q => ⟨Nat.le_trans (Nat.le_succ _) q.1, q.2⟩) (fun _ _ _ q => ⟨Nat.le_trans (Nat.le_succ _) q.1, q.2⟩) _ _ (ih _ h)
  | load a _ k ih | genState a k ih => intro Q E p s h; obtain ⟨o, ho, h⟩ := h; exact ⟨o, ho, ih _ h⟩
  | update a _ f k ih | choose _ _ k ih => intro Q E p s h; exact ⟨h.1, ih _ h.2⟩
  | call c hh g l k ih =>
    intro Q E p s h
    obtain ⟨r, s1, h1, h2⟩ := h
    have h3 := runs_toks h1
    exact ⟨r, s1, h1, Sem.wp_mono M Γ _ (fun _ _ _ q => ⟨Nat.le_trans h3 q.1, q.2⟩) (fun _ _ _ q => ⟨Nat.le_trans h3 q.1, q.2⟩) _ _ (ih _ h2)⟩
  | resume g r l k ih =>
    intro Q E p s h
    obtain ⟨res, s1, h1, h2⟩ := h
    have h3 := wakes_toks h1
    exact ⟨res, s1, h1, Sem.wp_mono M Γ _ (fun _ _ _ q => ⟨Nat.le_trans h3 q.1, q.2⟩) (fun _ _ _ q => ⟨Nat.le_trans h3 q.1, q.2⟩) _ _ (ih _ h2)⟩
/-- what is wanted behind may lean on a token's being there -/
theorem tkd {α : Type} {M : Model} {A : Around} {t : Sem α} {Q Q' : α → Shared → Prop} {E : Value → Shared → Prop} {s : Shared} (h0 : 0 < s.toks) (h : wpAny M A t Q E s) (hQ : ∀ a s', 0 < s'.toks → Q a s' → Q' a s') : wpAny M A t Q' E s :=
  fun Γ p hΓ => Sem.wp_mono M Γ t (fun _ _ s' q => hQ _ _ (Nat.lt_of_lt_of_le h0 q.1) q.2) (fun _ _ _ q => q.2) _ _ (wp_toks t (h Γ p hΓ))

/-! ### the rules where a token is there -/
def PE1 (X : Cx) (e : Expr) (t : TE) : Prop :=
  ∀ (pins : List (Addr × Obj)) (s : Shared) (σ : L2.St) (H : Hp) (Q : VK), Inv X pins σ H s → 0 < s.toks → t σ H Q → wpAny (model X.prog X.w) X.A (eval e X.env) (EP X pins σ Q) X.xe s
def PI1 (X : Cx) (tg iter : Expr) (wi : TI) : Prop :=
  ∀ (pins : List (Addr × Obj)) (s : Shared) (σ : L2.St) (H : Hp) (R : It → Hp → Prop), Inv X pins σ H s → 0 < s.toks → wi σ H R →
    wpAny (model X.prog X.w) X.A (eval iter X.env) (fun v s1 => wpAny (model X.prog X.w) X.A (pyIter v) (PIE X pins σ tg R) X.xe s1) X.xe s
def PS1 (X : Cx) (st : Stmt) (t : TS) : Prop :=
  ∀ (pins : List (Addr × Obj)) (s : Shared) (σ : L2.St) (H : Hp) (D : Ends), Inv X pins σ H s → 0 < s.toks → t D σ H → wpAny (model X.prog X.w) X.A (exec st X.env) (SP X pins D) X.xe s
def PSs1 (X : Cx) (st : List Stmt) (t : TS) : Prop :=
  ∀ (pins : List (Addr × Obj)) (s : Shared) (σ : L2.St) (H : Hp) (D : Ends), Inv X pins σ H s → 0 < s.toks → t D σ H → wpAny (model X.prog X.w) X.A (execs st X.env) (SP X pins D) X.xe s
section
variable {X : Cx} {st : Stmt} {rest : List Stmt} {t u : TS} {e : Expr} {te : TE} {pos : Pos} {tg : Expr}
theorem PE1.of (h : PE X e te) : PE1 X e te := fun pins s σ H Q I _ q => h pins s σ H Q I q
theorem PS1.of (h : PS X st t) : PS1 X st t := fun pins s σ H Q I _ q => h pins s σ H Q I q
theorem PSs1.of (h : PSs X rest t) : PSs1 X rest t := fun pins s σ H Q I _ q => h pins s σ H Q I q
theorem pss1_cons (h1 : PS1 X st t) (h2 : PSs1 X rest u) : PSs1 X (st :: rest) (tSeq t u) := by
  intro pins s σ H D I h0 h
  refine wpAny_execs_cons (tkd h0 (h1 pins s σ H { D with nx := u D } I h0 h) fun f s1 h0' q => ?_)
  cases f with
  | next =>
    obtain ⟨σ', H', I', q⟩ := q
    exact h2 pins s1 σ' H' D I' h0' q
  | ret v => exact q
  | brk => exact q
  | cont => exact q
theorem pss1_one (h1 : PS1 X st t) : PSs1 X [st] t := by
  intro pins s σ H D I h0 h
  refine wpAny_execs_cons (thn (h1 pins s σ H D I h0 h) fun f s1 q => ?_)
  cases f with
  | next => exact wpAny_execs_nil q
  | ret v => exact q
  | brk => exact q
  | cont => exact q
theorem ps_ret1 (he : PE1 X e te) : PS1 X (.Return (some e) pos) (tRet te) := by
  intro pins s σ H D I h0 h
  exact wpAny_Return_some (thn (he pins s σ H _ I h0 h) fun v s1 ⟨x, H1, I1, r1, q1⟩ => ⟨x, σ, H1, I1, r1, q1⟩)
/-- a test against a text, and from then on a token is there -/
theorem pss_ifTok {a : Expr} {op : CmpOp} {r : R2} {ta : TE} {w : Str} {j : Nat} {p pc : Pos} {A B : List Stmt} {tA tB : TS} (ho : OpR X (compareOp op) r) (ha : PE X a ta) (hm : behindInMarks op (.Constant (.str w) j p) = false) (hA : PSs X A tA) (hB : PSs X B tB) (h2 : PSs1 X rest u) :
    PSs X (.If (.Compare a [op] [.Constant (.str w) j p] pc) A B pos :: rest) (tSeq (tIfS (tTest (tOp r ta (tC (.str w)))) tA tB) u) := by
  intro pins s σ H D I h
  refine wpAny_execs_cons (wpAny_If (wpAny_isTrue_Compare1 (thn (ha pins s σ H _ I h) fun v s1 ⟨x, H1, I1, r1, q1⟩ => Calls.Constant_str ?_) hm))
  refine tkd (Nat.succ_pos _) (ho pins { s1 with toks := s1.toks + 1 } σ H1 x (.str w) v _ _ (I1.tok _) r1 ⟨_, rfl⟩ q1) fun c s3 h0 ⟨z, H3, I3, r3, k, e, q3⟩ => ?_
  subst e
  cases r3
  refine wpAny_truthy_bool ?_
  have fin : ∀ (f : Flow) (s4 : Shared), 0 < s4.toks → SP X pins { D with nx := u D } f s4 → (match f with | .next => wpAny (model X.prog X.w) X.A (execs rest X.env) (SP X pins D) X.xe s4 | f => SP X pins D f s4) := by
    intro f s4 h0' q
    cases f with
    | next =>
      obtain ⟨σ', H', I', q⟩ := q
      exact h2 pins s4 σ' H' D I' h0' q
    | ret v => exact q
    | brk => exact q
    | cont => exact q
  cases k with
  | true => exact tkd h0 (hA pins s3 σ H3 { D with nx := u D } I3 q3) fun f s4 h0' q => fin f s4 h0' q
  | false => exact tkd h0 (hB pins s3 σ H3 { D with nx := u D } I3 q3) fun f s4 h0' q => fin f s4 h0' q
theorem ps_for1 {iter : Expr} {body : List Stmt} {wi : TI} {g : TG} {tb : TS} (hp : PassesOwn (model X.prog X.w) X.A X.env X.xe) (hc : X.calm = true) (hi : PI1 X tg iter wi) (hg : PG X tg g) (hb : PSs1 X body tb)
    (hs : ∀ x, foldedSetIterable iter X.env x = pure x := by intro _; rfl) : PS1 X (.For tg iter body [] pos) (tFor wi g tb) := by
  intro pins s σ H D I h0 h
  refine wpAny_For (tkd h0 (hi pins s σ H _ I h0 h) fun v s1 h01 h1 => tkd h01 h1 fun itv s2 h02 h2 => ?_) hs
  obtain ⟨it, fp, tn, J, H2, e, I2, T, st2, f2, W, ⟨m0, w0⟩, turn⟩ := h2
  subst e
  have stat : ∀ {H' : Hp}, (∀ b ∈ fp, H' b = none) → ∀ b ∈ fp, FpOk X pins H' b := fun hn b hb => ⟨hn b hb, (f2 b hb).2⟩
  refine codeAny_forLoop_any (fun n s' => 0 < s'.toks ∧ ∃ i σ' H', Inv X pins σ' H' s' ∧ tn i s'.heap ∧ (∀ b ∈ fp, H' b = none) ∧ W i n σ' H') ?_ m0 ⟨h02, 0, σ, H2, I2, st2, fun b hb => (f2 b hb).1, w0⟩
  rintro n s3 ⟨h03, i, σ3, H3, I3, st3, fr3, w3⟩
  rcases turn i n σ3 H3 w3 with ⟨stop, qn⟩ | ⟨go, N, hN, step⟩
  · refine wpAny_passesOwn hp (thn (T.done X rfl rfl rfl hc i pins s3 σ3 H3 X.xe I3 (stat fr3) st3 stop) fun r s4 ⟨hr, I4⟩ => ?_)
    subst hr
    exact wpAny_execs_nil ⟨σ3, H3, I4, qn⟩
  · refine wpAny_passesOwn hp (tkd h03 (T.item X rfl rfl rfl hc i pins s3 σ3 H3 X.xe I3 (stat fr3) st3 go) fun r s4 h04 ⟨u, hr, h4⟩ => ?_)
    subst hr
    refine wpAny_passesOwn hp (tkd h04 h4 fun _ s5 h05 ⟨x, H5, I5, r5, y5, st5, fr5⟩ => ?_)
    have I5' := I5.pinned (stat fr5) (T.obj _ _ st5)
    refine wpAny_passesOwn hp (tkd h05 (hg _ s5 σ3 H5 x u _ I5' r5 (step x H5 y5)) fun _ s6 h06 ⟨σ6, H6, I6, q6⟩ => ?_)
    refine wpAny_passesOwn hp (tkd h06 (hb _ s6 σ6 H6 _ I6 h06 q6) fun f s7 h07 q7 => ?_)
    have again : ∀ {σ7 : L2.St} {H7 : Hp}, Inv X (pins ++ pinsAt fp s5.heap) σ7 H7 s7 → N σ7 H7 → ∃ m, m < n ∧ (0 < s7.toks ∧ ∃ i σ' H', Inv X pins σ' H' s7 ∧ tn i s7.heap ∧ (∀ b ∈ fp, H' b = none) ∧ W i m σ' H') := fun {σ7 H7} I7 n7 => by
      obtain ⟨m', hm, w7⟩ := hN σ7 H7 n7
      refine ⟨m', hm, h07, i + 1, σ7, H7, I7.unpinned, T.keep _ _ _ st5 fun b hb o e => (I7.pin (b, o) (List.mem_append_right _ (List.mem_append_right _ (mem_pinsAt hb e)))).1, fun b hb => ?_, w7⟩
      obtain ⟨o, e, d⟩ := T.obj _ _ st5 b hb
      exact (I7.pin (b, o) (List.mem_append_right _ (List.mem_append_right _ (mem_pinsAt hb e)))).2.1
    cases f with
    | next => obtain ⟨σ7, H7, I7, n7⟩ := q7; exact again I7 n7
    | cont => obtain ⟨σ7, H7, I7, n7⟩ := q7; exact again I7 n7
    | brk => obtain ⟨σ7, H7, I7, q7⟩ := q7; exact ⟨σ7, H7, I7.unpinned, q7⟩
    | ret v => obtain ⟨x7, σ7, H7, I7, r7, q7⟩ := q7; exact ⟨x7, σ7, H7, I7.unpinned, r7, q7⟩
end

/-! ### a def that is called where a token is there -/
structure FnOk1 (P : Program) (w : World) (K : PySem.W.Frag) (mg : Str → Option Value) (base : Heap) (CX : CXT) (k : Nat) (f : Addr) (fd : FuncData) (ps : List Str) (sp : Sp) : Prop where
  len : ∀ vs H Q E, sp vs H Q E → vs.length = ps.length
  run : ∀ (A : Around) (outer : List Env) (s : Shared) (H : Hp) (args : Args) (us : List Value) (vs : List V) (Q : VK) (E : XK), Room k A → Env0 P w K mg base A outer s H → 0 < s.toks → BindsTo s fd args (ps.zip us) → Vals vs us → sp vs H Q E →
    codeAny (model P w) A (.call (.ref f) args) (CR CX outer P w H s Q E) s
section
variable {P : Program} {w : World} {K : PySem.W.Frag} {mg : Str → Option Value} {base : Heap}
theorem fun_ok1 {x qual : Str} {st : Stmt} {f : Addr} {fd : FuncData} {N ps : List Str} {k : Nat} {sp : Sp} (F : Fun K x qual st f fd) (S : FnScope N ps (defScope st)) (len : ∀ vs H Q E, sp vs H Q E → vs.length = ps.length)
    (hbody : ∀ (cdv : Value) (A : Around) (outer : List Env) (s : Shared) (H : Hp) (vs : List V) (Q : VK) (E : XK), Room k (A.deeper (envOfC qual (defScope st) s.heap.objs.size f cdv)) → sp vs H Q E →
      ∃ t, PSs1 (cxOf CX0 P w K mg base N qual (defScope st) f cdv A outer s H E).nox (defBody st) t ∧ t { nx := fun _ H' => Q .non H', rt := Q } (start N vs) H) : FnOk1 P w K mg base CX0 (k + 1) f fd ps sp := by
  obtain ⟨oc, od, kV, doc, pm, an, cdv, ct, osl, rfl, lk, hcd⟩ := F.ex
  refine ⟨len, fun A outer s H args us vs Q E hr e0 h0 hb r hsp => ?_⟩
  have hl := len _ _ _ _ hsp
  have KX : K.In s.heap := e0.mod.kin.keeps fun b o e => (e0.bs b o e).1
  have lim : s.heap.NoLimit := e0.mod.nolimit.keeps fun b o e => (e0.bs b o e).1
  have hkind : ∀ y ∈ ps.zip us, (defScope st).names.lookup y.1 = some .local ∨ ((defScope st).names.lookup y.1 = some .cell ∧ ((cellsFrom (s.heap.objs.size + 1) (defScope st).names []).lookup y.1).isSome = true) := fun ⟨n, v⟩ hy => by
    rcases S.par n (List.of_mem_zip hy).1 with q | q
    · exact .inl q
    · exact .inr ⟨q, PySem.W.cellsFrom_some _ _ _ (.inl q)⟩
  refine codeAny_call_function hr.depth (KX _ _ lk) rfl S.co S.gen rfl (PySem.W.codeRec_of KX hcd) (hb _ _ _ _ ?_)
  refine tkd (Q := fun env s1 => env = envOfC qual (defScope st) s.heap.objs.size f cdv ∧ InCallC s s.heap.objs.size (bindL (envOfC qual (defScope st) s.heap.objs.size f cdv).kindOf (ps.zip us) fun _ => none) (cellsFrom (s.heap.objs.size + 1) (defScope st).names []) (bindC (envOfC qual (defScope st) s.heap.objs.size f cdv).kindOf (ps.zip us) fun _ => none) s1) h0 (wpAny_newFunctionEnv_cells S.kind hkind fun env he s1 x => ⟨he, by subst he; exact x⟩) fun env s1 h01 ⟨he, x⟩ => ?_
  subst he
  refine ⟨lim.keeps x.toInCall.keep, codeAny_func ?_⟩
  obtain ⟨t, ht, hq⟩ := hbody cdv A outer s H vs Q E (hr.deeper _) hsp
  have I : Inv (cxOf CX0 P w K mg base N qual (defScope st) f cdv A outer s H E) [] (start N vs) H s1 := inv_start S hr.hd e0 hl r x
  refine wpAny_mono (ht [] s1 (start N vs) H _ (I.wish _) h01 hq) (fun fl s' hs => ?_) fun e s' hs => hs.elim
  have fin : ∀ {σ' : L2.St} {H' : Hp} {v : V} {u : Value}, Inv (cxOf CX0 P w K mg base N qual (defScope st) f cdv A outer s H E) [] σ' H' s' → RelV v u → Q v H' → CE outer P w H s Q u s' :=
    fun {σ' H' v u} J rv q => ⟨v, H', J.os, J.bare, J.base, J.hok, rv, q⟩
  cases fl with
  | ret u =>
    obtain ⟨v, σ', H', J, rv, q⟩ := hs
    exact fin J.unwish rv q
  | next =>
    obtain ⟨σ', H', J, q⟩ := hs
    exact fin (v := V.non) (u := Value.none) J.unwish rfl q
  | brk =>
    obtain ⟨_, _, _, q⟩ := hs
    exact False.elim q
  | cont =>
    obtain ⟨_, _, _, q⟩ := hs
    exact False.elim q
end
structure OkT (P : Program) (w : World) (K : PySem.W.Frag) (mg : Str → Option Value) (base : Heap) (k : Nat) (x : Str) (ps : List Str) (sp : Sp) : Prop where
  ex : ∃ (f : Addr) (fd : FuncData), FnOk1 P w K mg base CX0 k f fd ps sp ∧ mg x = some (.ref f) ∧ PySem.W.keepIn K (.ref f) = true ∧ Binds K fd ps []
theorem pe_fn1 {X : Cx} {k : Nat} {x : Str} {ps : List Str} {sp : Sp} {e : Expr} {es : List Expr} {t : TA} {p pos : Pos} (F : OkT X.prog X.w X.K X.mg X.base k x ps sp) (hr : Room k X.A) (hg : Gl X x) (ha : PA X (e :: es) t)
    (hdb : (x == ("__debug__" : Str)) = false := by decide) (he : starEach (e :: es) X.env = (false, eval e X.env) :: starEach es X.env := by rfl) (hpl : (backTo pos (starEach es X.env)).any (·.1) = false := by rfl) :
    PE1 X (.Call (.Name x p) (e :: es) [] pos) (tCall sp [] E0 t) := by
  obtain ⟨f, fd, F, hm, hk, hb⟩ := F.ex
  intro pins s σ H Q I h0 h
  refine wpAny_Call_Name_kw (ld_glob I hg hm ?_ hdb)
  refine PySem.W.callWith_K (h₀ := X.base) I.ok.mod.kin hk (tkd h0 (ha pos pins s σ H _ I h) fun us s1 h01 ⟨vs, H1, I1, r, q⟩ => ⟨I1.kIn, ?_⟩) he hpl
  have hq : sp vs H1 Q E0 := by simpa using q
  have hl : us.length = ps.length := by rw [← r.length]; exact F.len _ _ _ _ hq
  have hbs := hb s1 us I1.kIn (by simpa using hl)
  refine wpAny_call (codeAny_mono (F.run X.A X.stack s1 H1 ⟨us, []⟩ us vs Q E0 hr I1.env0 h01 (by simpa using hbs) r hq) fun r s' hq => ?_)
  cases r with
  | error e => exact False.elim hq
  | ok fl =>
    cases fl with
    | ret u => exact I1.after hq
    | next => exact False.elim hq
    | brk => exact False.elim hq
    | cont => exact False.elim hq
end TX
namespace TX
open PySem PySem.Spec PyProof.Rows L2 TT PySem.Builtin PySem.Builtin.Str

/-! ### for over a text -/
def asc (x : Str) : Prop := ∀ c ∈ x.cps.toList, c < 128
theorem asc_all {x : Str} (h : asc x) : x.cps.all (· < 128) = true := by
  rw [← Array.all_toList, List.all_eq_true]
  exact fun c hc => decide_eq_true (h c hc)
def Its (x : Str) : It := ⟨fun i _ => i < x.cps.size, fun i H v H' => H' = H ∧ ∃ c, x.cps.toList[i]? = some c ∧ v = .str ⟨#[c]⟩, fun i _ => x.cps.size ≤ i⟩
theorem turn_str {P : Program} {w : World} {K : PySem.W.Frag} {tg : Expr} (x : Str) (t : Tok) (it : Addr) : Turn P w K tg (Its x) [it] it (fun i h => h.IsStrIter it "str_ascii_iterator" x t i) where
  mem := by simp
  obj := fun i h st b hb => by
    have e : b = it := by simpa using hb
    subst e
    obtain ⟨o, e, c, d⟩ := st
    exact ⟨o, e, fun v z => by rw [d] at z; cases z⟩
  keep := fun i h h' st k => by
    obtain ⟨o, e, c, d⟩ := st
    exact ⟨o, k it (by simp) o e, c, d⟩
  item := by
    intro X hP hw hK hc i pins s σ H E I hf st hg
    subst hP hw hK
    have hg : i < x.cps.size := hg
    obtain ⟨f0, f1, f2, f3, f4, f5⟩ := hf it (by simp)
    refine wpAny_pyNext_ascii_item st (c := x.cps[i]) (by simp [hg]) fun h' st' sb => ?_
    have I1 : Inv X pins σ H { s with heap := h', toks := s.toks + 1 } := I.turned (fun b o hb e => (sb.2 b hb).trans e) f0 f1 f3 f4 f5
    obtain ⟨o, e, c, d⟩ := id st'
    exact ⟨_, rfl, go_of (s := { s with heap := h', toks := s.toks + 1 }) e c d (by decide) ⟨.str ⟨#[x.cps[i]]⟩, H, I1, ⟨_, rfl⟩, ⟨rfl, x.cps[i], by simp [hg], rfl⟩, st', fun b hb => (hf b hb).1⟩⟩
  done := by
    intro X hP hw hK hc i pins s σ H E I hf st hg
    subst hP hw hK
    have hg : x.cps.size ≤ i := hg
    obtain ⟨f0, f1, f2, f3, f4, f5⟩ := hf it (by simp)
    exact wpAny_pyNext_ascii_end (I.ok.hd hc) st (by simp [hg]) fun h' eb => ⟨rfl, I.turned (t' := s.toks) (fun b o hb e => eb b o hb e) f0 f1 f3 f4 f5⟩
  self := fun _ _ _ _ _ st h => wpAny_pyIter_striter_ascii st h
inductive StrI (R : It → Hp → Prop) (x : V) (H1 : Hp) : Prop
  | mk (z : Str) (e : x = .str z) (h : asc z) (q : R (Its z) H1) : StrI R x H1
def iStr (tl : TE) : TI := fun σ H R => tl σ H (StrI R)
section
variable {X : Cx} {tg : Expr}
theorem pi_str {l : Expr} {tl : TE} (hl : PE X l tl) : PI X tg l (iStr tl) := by
  intro pins s σ H R I h
  refine thn (hl pins s σ H _ I h) fun v s1 ⟨x, H1, I1, r1, q1⟩ => ?_
  obtain ⟨z, e, ha, q⟩ := q1
  subst e
  obtain ⟨t, rfl⟩ := r1
  refine wpAny_pyIter_ascii (asc_all ha) ?_
  refine ⟨s1.heap.objs.size, [s1.heap.objs.size], _, _, H1, rfl, I1.kept (t' := s1.toks) fun b o e => Heap.get?_push_of_some _ e, turn_str z t _, ⟨_, Heap.get?_push_size _ rfl, rfl, rfl⟩, fun b hb => ?_, q⟩
  have e : b = s1.heap.objs.size := by simpa using hb
  subst e
  exact I1.fpOk (Nat.le_refl _) (I1.hok.fresh (Nat.le_refl _))
theorem pi_list1 {l : Expr} {tl : TE} (hl : PE1 X l tl) : PI1 X tg l (iList X.K tl) := by
  intro pins s σ H R I h0 h
  refine thn (hl pins s σ H _ I h0 h) fun v s1 ⟨x, H1, I1, r1, q1⟩ => ?_
  obtain ⟨a, e, ⟨xs, hq⟩, q⟩ := q1
  subst e
  cases r1
  obtain ⟨its, rv, p, hz⟩ := I1.list hq
  refine wpAny_pyIter_list p.isList ?_
  refine ⟨s1.heap.objs.size, [s1.heap.objs.size], _, _, H1, rfl, I1.kept (t' := s1.toks) fun b o e => Heap.get?_push_of_some _ e, turn_list a _, ⟨_, Heap.get?_push_size _ rfl, rfl, rfl⟩, fun b hb => ?_, q⟩
  have e : b = s1.heap.objs.size := by simpa using hb
  subst e
  exact I1.fpOk (Nat.le_refl _) (I1.hok.fresh (Nat.le_refl _))
end
/-- the loop over it: by what is left of the text -/
theorem for_str {x : Str} {g : TG} {tb : TS} {De : Ends} {σ : L2.St} {H : Hp} (Pv : List Nat → List Nat → L2.St → Hp → Prop) (h0 : Pv [] x.cps.toList σ H)
    (step : ∀ a c r σ H, x.cps.toList = a ++ c :: r → Pv a (c :: r) σ H → g (.str ⟨#[c]⟩) σ H fun σ2 H2 => tb { De with nx := Pv (a ++ [c]) r, ct := Pv (a ++ [c]) r, bk := De.nx } σ2 H2) (last : ∀ σ H, Pv x.cps.toList [] σ H → De.nx σ H) :
    ∃ W : Nat → Nat → L2.St → Hp → Prop, (∃ m, W 0 m σ H) ∧ ∀ i m σ H, W i m σ H →
      ((Its x).stop i H ∧ De.nx σ H) ∨ ((Its x).go i H ∧ ∃ N : L2.St → Hp → Prop, (∀ σ' H', N σ' H' → ∃ m', m' < m ∧ W (i + 1) m' σ' H') ∧ ∀ v H', (Its x).yld i H v H' → g v σ H' fun σ2 H2 => tb { De with nx := N, ct := N, bk := De.nx } σ2 H2) := by
  have hsz : x.cps.toList.length = x.cps.size := by simp
  refine ⟨fun i m σ H => m = x.cps.size - i ∧ i ≤ x.cps.size ∧ Pv (x.cps.toList.take i) (x.cps.toList.drop i) σ H, ⟨x.cps.size, by simp, Nat.zero_le _, by simpa using h0⟩, ?_⟩
  rintro i m σ H ⟨rfl, hle, pv⟩
  by_cases hlt : i < x.cps.size
  · have hl : i < x.cps.toList.length := by omega
    have e1 : x.cps.toList.drop i = x.cps.toList[i] :: x.cps.toList.drop (i + 1) := List.drop_eq_getElem_cons hl
    have e2 : x.cps.toList.take (i + 1) = x.cps.toList.take i ++ [x.cps.toList[i]] := by rw [List.take_add_one, List.getElem?_eq_getElem hl]; rfl
    refine .inr ⟨hlt, Pv (x.cps.toList.take (i + 1)) (x.cps.toList.drop (i + 1)), fun σ' H' p' => ⟨x.cps.size - (i + 1), by omega, rfl, hlt, p'⟩, ?_⟩
    rintro v H' ⟨rfl, c, hc, rfl⟩
    rw [List.getElem?_eq_getElem hl] at hc
    obtain rfl := Option.some.inj hc
    rw [e2]
    rw [e1] at pv
    exact step _ _ _ σ _ (by rw [← e1, List.take_append_drop]) pv
  · have : i = x.cps.size := by omega
    subst this
    refine .inl ⟨Nat.le_refl _, last σ H ?_⟩
    rwa [← hsz, List.take_length, List.drop_length] at pv

/-! ### o.replace('y', 'z'), where a token is there -/
inductive ReplR (y z : Str) (Q : VK) (x : V) (H : Hp) : Prop
  | mk (t : Str) (e : x = .str t) (hl : t.length ≤ 1048576) (q : Q (.str (Txt.replace t y z)) H) : ReplR y z Q x H
def tRepl (y z : Str) (to : TE) : TE := fun σ H Q => to σ H (ReplR y z Q)
section
variable {X : Cx} {o : Expr} {to : TE}
theorem pe_replace {y z : Str} {j k : Nat} {p q apos cpos : Pos} (ho : PE1 X o to) (hyz : (y == z) = false := by decide +kernel) (hz : z.length ≤ 14 := by decide +kernel)
    (hbase : attributeBase o "replace" X.env (eval o X.env) = eval o X.env := by rfl)
    (hfew : ((backTo cpos (starEach [.Constant (.str y) j p, .Constant (.str z) k q] X.env)).all (fun x => !x.1) && (backToKw cpos (keywordEach [] X.env)).all (fun x => x.1.isSome)
      && decide ([Expr.Constant (.str y) j p, Expr.Constant (.str z) k q].length + ([] : List Keyword).length + (if ([] : List Keyword).isEmpty then 0 else 1) < 30)) = true := by rfl)
    (hline : (apos.endLine == cpos.line) = true := by rfl) : PE1 X (.Call (.Attribute o "replace" apos) [.Constant (.str y) j p, .Constant (.str z) k q] [] cpos) (tRepl y z to) := by
  intro pins s σ H Q I h0 h
  refine wpAny_Call_method_late hbase hfew hline rfl (tkd h0 (ho pins s σ H _ I h0 h) fun v s1 h01 ⟨x, H1, I1, r1, q1⟩ => ?_)
  obtain ⟨t, rfl, hl, q1⟩ := q1
  obtain ⟨tk, rfl⟩ := r1
  refine ⟨"str", _, F.plainAttrs_str, F.slot_str_replace, F.type_str_replace, typeIs_str _ _ _, (fun _ e => nomatch e), ?_⟩
  refine Calls.callWith_builtin rfl (Calls.evalArgs_plain ?_)
  refine Calls.spliced_cons (Calls.Constant_str (k := j) (pos := p) (Calls.spliced_cons (Calls.Constant_str (k := k) (pos := q) (Calls.spliced_nil ?_))))
  refine SC.replaceW (Nat.ne_of_gt h01) (Nat.succ_ne_zero _) (Nat.ne_of_lt (Nat.lt_succ_self _)) hyz hl hz fun t' tk => ?_
  exact ⟨.str _, H1, I1.tok _, ⟨_, rfl⟩, q1⟩
theorem pe_bm01 {T id : String} {name : Str} {r : V → List V → Hp → VK → Prop} {apos cpos : Pos} (pa : PlainAttrs T) (slot : Slot T name id) (hty : typeOf (.builtin id) = pure (.type "method_descriptor")) (hm : MtR X id r) (ho : PE1 X o to)
    (hbase : attributeBase o name X.env (eval o X.env) = eval o X.env := by rfl) (hline : (apos.endLine == cpos.line) = true := by rfl) : PE1 X (.Call (.Attribute o name apos) [] [] cpos) (tBM0 X.K T r to) := by
  intro pins s σ H Q I h0 h
  refine wpAny_Call_method0_late hbase hline (thn (ho pins s σ H _ I h0 h) fun v s1 ⟨x, H1, I1, r1, ty, q1⟩ => ?_)
  obtain ⟨h1, h2⟩ := tyV_is I1 r1 ty
  exact ⟨T, id, pa, slot, hty, h1, h2, Calls.callWith_builtin rfl (PySem.evalArgs_none (hm pins s1 σ H1 x [] v [] Q I1 r1 .nil q1))⟩
end

/-! ### split(), join -/
theorem strs_vals : ∀ (tk : Nat) (xs : List Str), Vals (xs.map V.str) (strsFrom tk xs)
  | _, [] => .nil
  | tk, x :: xs => .cons ⟨tk, rfl⟩ (strs_vals (tk + 1) xs)
inductive SplitR (x : V) (vs : List V) (H : Hp) (Q : VK) : Prop
  | mk (z : Str) (e : x = .str z) (e' : vs = []) (hl : z.length ≤ 1048576) (q : ∀ p, H p = none → Q (.ref p) (upd H p (.lst ((PySem.wordsOf z).map V.str)))) : SplitR x vs H Q
theorem mt_split {X : Cx} : MtR X "str.split" SplitR := by
  intro pins s σ H x xs v us Q I rx rs h
  obtain ⟨z, rfl, rfl, hl, q⟩ := h
  obtain ⟨t, rfl⟩ := rx
  cases rs
  have e24 : sizeLine = 16777216 := by decide
  have hn : (spaceWords z (z.length + 1)).length ≤ sizeLine := by
    have h1 := (StrLaws.sw_weight z).1
    have h2 := StrLaws.len_le_wsum (spaceWords z (z.length + 1))
    omega
  refine call_meets F.slot_str_split (typeIs_str _ _ _) F.entry_str_split (F.args_str_split_1 _) (meets_str_split_space z t (by omega) hn) ?_
  have hw : (PySem.wordsOf z).length = (spaceWords z (z.length + 1)).length := by rw [PySem.wordsOf, List.length_map]
  show if _ then _ else _
  split
  · rename_i he
    have he := eq_of_beq he
    have e : PySem.wordsOf z = [z] := by
      rw [PySem.wordsOf, he]
      show [strSub z 0 z.length] = [z]
      congr 1
      refine Str.ext' (Array.toList_inj.mp ?_)
      rw [StrLaws.strSub_toList, List.drop_zero, List.take_of_length_le (by simp [Str.length])]
    rw [e] at q
    exact ⟨.ref s.heap.objs.size, _, I.lnew (ys := [V.str z]) (its := [Value.str z t]) (t' := s.toks) (.cons ⟨t, rfl⟩ .nil) (show 1 ≤ sizeLine by decide), rfl, q _ I.fresh⟩
  · exact ⟨.ref s.heap.objs.size, _, I.lnew (strs_vals _ _) (by rw [List.length_map, hw]; exact hn), rfl, q _ I.fresh⟩
inductive JoinR (K : PySem.W.Frag) (x : V) (vs : List V) (H : Hp) (Q : VK) : Prop
  | mk (z : Str) (a : Addr) (ts : List Str) (e : x = .str z) (e' : vs = [.ref a]) (h : SqL K H a (ts.map V.str)) (hok : JoinOk z ts = true) (q : Q (.str (Txt.join z ts)) H) : JoinR K x vs H Q
/-! ### slices of texts -/
def cutS (z : Str) (lo hi : Option Int) : Str := ⟨((z.cps.toList.drop (HT.sIx z.length 0 lo)).take (HT.sIx z.length z.length hi - HT.sIx z.length 0 lo)).toArray⟩
inductive SlS (x : V) (lo hi : Option Int) (H : Hp) (Q : VK) : Prop
  | mk (z : Str) (e : x = .str z) (hl : z.length ≤ sizeLine) (q : Q (.str (cutS z lo hi)) H) : SlS x lo hi H Q
/-! ### f'..{x!r}' of a text -/
theorem pf_repr {X : Cx} {i : Nat} {x : Str} {p pos : Pos} (hv : PE X (.Name x p) (tVar i)) : PF X (.FormattedValue (.Name x p) 114 none pos) (fun σ _ => ∃ z, σ[i]? = some (some (.str z)) ∧ z.length ≤ 100000 ∧ asc z) 1000002 := by
  intro pins s σ H I ⟨z, hi, hl, ha⟩
  refine wpAny_FormattedValue_repr (thn (hv pins s σ H (fun v H' => v = .str z ∧ H' = H) I ⟨_, hi, rfl, rfl⟩) fun u s1 ⟨v, H1, I1, r1, e1, e2⟩ => ?_)
  subst e1 e2
  obtain ⟨t, rfl⟩ := (show ∃ t, u = Value.str z t from r1)
  have h1 := StrLaws.reprText_len z fun c hc => Nat.lt_of_lt_of_le (ha c hc) (by decide)
  have h2 : (reprText z).length ≤ sizeLine := by
    have : sizeLine = 16777216 := by decide
    omega
  refine wpAny_pyReprObj_str ?_ h2
  refine formatField_str (fun t' tk => ⟨_, _, rfl, by omega, I1.tok _⟩) h2
end TX
namespace TX
open PySem PySem.Builtin PySem.Builtin.Str PySem.StrLaws TT
def f1 (c : Nat) : List Nat := if c = 40 then [32, 40, 32] else [c]
def f2 (c : Nat) : List Nat := if c = 41 then [32, 41, 32] else [c]
theorem rep1 : RepF [40] [32, 40, 32] (fun l => l.flatMap f1) := ⟨rfl, fun r => rfl, fun c r h => by
  show (c :: r).flatMap f1 = _
  rw [List.flatMap_cons, f1, if_neg]
  · rfl
  · rintro rfl
    exact h ⟨r, rfl⟩⟩
theorem rep2 : RepF [41] [32, 41, 32] (fun l => l.flatMap f2) := ⟨rfl, fun r => rfl, fun c r h => by
  show (c :: r).flatMap f2 = _
  rw [List.flatMap_cons, f2, if_neg]
  · rfl
  · rintro rfl
    exact h ⟨r, rfl⟩⟩
theorem low_space : ∀ c, low c = true → Unicode.isSpace c = false := by
  have key : ∀ c ∈ List.range' 97 26, Unicode.isSpace c = false := by decide +kernel
  intro c h
  refine key c (List.mem_range'_1.mpr ?_)
  simp only [low, Bool.and_eq_true, decide_eq_true_eq] at h
  omega
theorem sp32 : Unicode.isSpace 32 = true := by decide +kernel
theorem sp40 : Unicode.isSpace 40 = false := by decide +kernel
theorem sp41 : Unicode.isSpace 41 = false := by decide +kernel
theorem len_mk (w : List Nat) : (⟨w.toArray⟩ : Str).length = w.length := by simp [Str.length]
theorem step_blank (ws : List Str) (w : List Nat) : KWd.step (ws, ⟨w.toArray⟩) 32 = (ws ++ flush w, ⟨[].toArray⟩) := by
  unfold KWd.step flush
  rw [if_pos sp32]
  dsimp only
  rw [len_mk]
  by_cases h : w = []
  · subst h
    simp
  · rw [if_neg h, if_neg (by intro e; exact h (List.length_eq_zero_iff.mp e))]
    rfl
theorem step_sign {c : Nat} (h : Unicode.isSpace c = false) (ws : List Str) (w : List Nat) : KWd.step (ws, ⟨w.toArray⟩) c = (ws, ⟨(w ++ [c]).toArray⟩) := by
  unfold KWd.step
  rw [if_neg (by rw [h]; exact Bool.false_ne_true)]
  refine Prod.ext rfl ?_
  refine Str.ext' ?_
  show w.toArray ++ #[c] = _
  simp
theorem step_par {c : Nat} (h : Unicode.isSpace c = false) (ws : List Str) (w : List Nat) : KWd.step (KWd.step (KWd.step (ws, ⟨w.toArray⟩) 32) c) 32 = (ws ++ (flush w ++ [⟨#[c]⟩]), ⟨[].toArray⟩) := by
  rw [step_blank, step_sign h, step_blank, List.nil_append, List.append_assoc]
  rfl
theorem fin_scan : ∀ (l : List Nat) (ws : List Str) (w : List Nat), (∀ c ∈ l, sgn c = true) → KWd.fin (((l.flatMap f1).flatMap f2).foldl KWd.step (ws, ⟨w.toArray⟩)) = ws ++ spl w l
  | [], ws, w, _ => by
    show KWd.fin (ws, ⟨w.toArray⟩) = ws ++ flush w
    unfold KWd.fin flush
    dsimp only
    rw [len_mk]
    by_cases h : w = []
    · subst h
      simp
    · rw [if_neg h, if_neg (by intro e; exact h (List.length_eq_zero_iff.mp e))]
  | c :: r, ws, w, h => by
    have ih := fun ws w => fin_scan r ws w fun d hd => h d (List.mem_cons_of_mem _ hd)
    have hc := h c List.mem_cons_self
    rw [List.flatMap_cons, List.flatMap_append, List.foldl_append]
    by_cases h40 : c = 40
    · subst h40
      show KWd.fin (((r.flatMap f1).flatMap f2).foldl KWd.step (KWd.step (KWd.step (KWd.step (ws, ⟨w.toArray⟩) 32) 40) 32)) = _
      rw [step_par sp40, ih, spl, if_pos rfl]
      simp
    · by_cases h41 : c = 41
      · subst h41
        show KWd.fin (((r.flatMap f1).flatMap f2).foldl KWd.step (KWd.step (KWd.step (KWd.step (ws, ⟨w.toArray⟩) 32) 41) 32)) = _
        rw [step_par sp41, ih, spl, if_neg (by decide), if_pos rfl]
        simp
      · have e : (f1 c).flatMap f2 = [c] := by rw [f1, if_neg h40]; simp [f2, h41]
        rw [e]
        show KWd.fin (((r.flatMap f1).flatMap f2).foldl KWd.step (KWd.step (ws, ⟨w.toArray⟩) c)) = _
        by_cases h32 : c = 32
        · subst h32
          rw [step_blank, ih, spl, if_neg (by decide), if_neg (by decide), if_pos rfl]
          simp
        · have hl : low c = true := by simpa [sgn, h40, h41, h32] using hc
          rw [step_sign (low_space c hl), ih, spl_low hl]
theorem words_line {z y1 z1 y2 z2 : Str} (h1 : y1 = ⟨#[40]⟩) (h2 : z1 = ⟨#[32, 40, 32]⟩) (h3 : y2 = ⟨#[41]⟩) (h4 : z2 = ⟨#[32, 41, 32]⟩) (h : ∀ c ∈ z.cps.toList, sgn c = true) :
    PySem.wordsOf (Txt.replace (Txt.replace z y1 z1) y2 z2) = spl [] z.cps.toList := by
  subst h1 h2 h3 h4
  have e1 := replace_eq (x := z) (y := ⟨#[40]⟩) (z := ⟨#[32, 40, 32]⟩) rep1 (by decide)
  have e2 := replace_eq (x := Txt.replace z ⟨#[40]⟩ ⟨#[32, 40, 32]⟩) (y := ⟨#[41]⟩) (z := ⟨#[32, 41, 32]⟩) rep2 (by decide)
  have e3 := KWd.wordsOf_scan (Txt.replace (Txt.replace z ⟨#[40]⟩ ⟨#[32, 40, 32]⟩) ⟨#[41]⟩ ⟨#[32, 41, 32]⟩)
  refine Eq.trans e3 ?_
  unfold KWd.scan
  rw [e2, e1]
  exact fin_scan _ [] [] h
theorem rep_len1 {z y1 z1 : Str} (h1 : y1 = ⟨#[40]⟩) (h2 : z1 = ⟨#[32, 40, 32]⟩) : (Txt.replace z y1 z1).length ≤ 3 * z.length := by
  subst h1 h2
  have e1 := replace_eq (x := z) (y := ⟨#[40]⟩) (z := ⟨#[32, 40, 32]⟩) rep1 (by decide)
  have h : ∀ l : List Nat, (l.flatMap f1).length ≤ 3 * l.length := by
    intro l
    induction l with
    | nil => exact Nat.le_refl _
    | cons c r ih =>
      rw [List.flatMap_cons, List.length_append, List.length_cons, f1]
      split <;> simp only [List.length_cons, List.length_nil] <;> omega
  have h2 := congrArg List.length e1
  have h3 := h z.cps.toList
  have e : ∀ x : Str, x.length = x.cps.toList.length := fun x => by simp [Str.length]
  rw [e, e, h2]
  exact h3
theorem rep_len2 {z y1 z1 : Str} (h1 : y1 = ⟨#[41]⟩) (h2 : z1 = ⟨#[32, 41, 32]⟩) : (Txt.replace z y1 z1).length ≤ 3 * z.length := by
  subst h1 h2
  have e1 := replace_eq (x := z) (y := ⟨#[41]⟩) (z := ⟨#[32, 41, 32]⟩) rep2 (by decide)
  have h : ∀ l : List Nat, (l.flatMap f2).length ≤ 3 * l.length := by
    intro l
    induction l with
    | nil => exact Nat.le_refl _
    | cons c r ih =>
      rw [List.flatMap_cons, List.length_append, List.length_cons, f2]
      split <;> simp only [List.length_cons, List.length_nil] <;> omega
  have h2 := congrArg List.length e1
  have h3 := h z.cps.toList
  have e : ∀ x : Str, x.length = x.cps.toList.length := fun x => by simp [Str.length]
  rw [e, e, h2]
  exact h3
theorem flush_len (w : List Nat) : (flush w).length ≤ 1 := by unfold flush; split <;> simp
theorem spl_len : ∀ (l w : List Nat), (spl w l).length ≤ 2 * l.length + 1
  | [], w => flush_len w
  | c :: r, w => by
    have h1 := flush_len w
    have h2 := spl_len r []
    have h3 := spl_len r (w ++ [c])
    rw [spl]
    split
    · simp only [List.length_append, List.length_cons]; omega
    · split
      · simp only [List.length_append, List.length_cons]; omega
      · split
        · simp only [List.length_append, List.length_cons]; omega
        · simp only [List.length_cons]; omega
/-- all that fits is a sign of a line -/
theorem chk_sgn : ∀ (l : List Nat) (p : Nat) (d : Int), chk p d l = true → ∀ c ∈ l, sgn c = true
  | [], _, _, _, c, h => by cases h
  | a :: r, p, d, h, c, hc => by
    rw [chk, Bool.and_eq_true, Bool.and_eq_true] at h
    rcases List.mem_cons.mp hc with rfl | hc
    · by_cases hl : low c = true
      · simp [sgn, hl]
      · have h1 := h.1
        rw [kind_not hl] at h1
        have hk : c ≠ 97 := by rintro rfl; exact hl rfl
        simp only [okL, Bool.or_eq_true, Bool.and_eq_true, beq_iff_eq] at h1
        simp only [sgn, Bool.or_eq_true, beq_iff_eq]
        omega
    · exact chk_sgn r _ _ h.2.2 c hc
end TX
namespace TX
open PySem PySem.Builtin PySem.Builtin.Str PySem.StrLaws TT
/-! ### texts of ASCII no longer than n -/
def Sm (n : Nat) (z : Str) : Prop := asc z ∧ z.length ≤ n
theorem sep0_eq : Str.ofString "" = Str.empty := by decide +kernel
mutual
theorem txt_le : ∀ t : Tr, t.words → (txt t).length + 1 ≤ 31 * t.knots
  | .node m ks, h => by
    rw [Tr.words] at h
    have h1 := txts_le false ks h.2
    have h2 : m.cps.toList.length ≤ 28 := by
      have := h.1.2.1
      simpa [Str.length] using this
    rw [txt, Tr.knots]
    split
    · simp only [List.append_nil]; omega
    · simp only [List.length_append, List.length_cons, List.length_nil]; omega
theorem txts_le : ∀ (b : Bool) (ts : List Tr), TT.wordsOf ts → (txts b ts).length ≤ 31 * knotsOf ts
  | _, [], _ => Nat.zero_le _
  | b, t :: ts, h => by
    rw [TT.wordsOf] at h
    have h1 := txt_le t h.1
    have h2 := txts_le true ts h.2
    rw [txts, knotsOf]
    have : (if b = true then [32] else ([] : List Nat)).length ≤ 1 := by split <;> simp
    simp only [List.length_append]
    omega
end
mutual
theorem words_good : ∀ t : Tr, t.words → good t
  | .node m ks, h => by
    rw [Tr.words] at h
    rw [good]
    refine ⟨⟨fun e => ?_, fun c hc => ?_⟩, words_goods ks h.2⟩
    · have h1 := h.1.1
      have h2 : m.cps.toList.length = m.length := by simp [Str.length]
      rw [e] at h2
      simp at h2
      omega
    · have := h.1.2.2 c hc
      simp [low, this]
theorem words_goods : ∀ ts : List Tr, TT.wordsOf ts → goods ts
  | [], _ => trivial
  | t :: ts, h => by
    rw [TT.wordsOf] at h
    rw [goods]
    exact ⟨words_good t h.1, words_goods ts h.2⟩
end
theorem sgn_asc {c : Nat} (h : sgn c = true) : c < 128 := by
  simp only [sgn, low, Bool.or_eq_true, Bool.and_eq_true, decide_eq_true_eq, beq_iff_eq] at h
  omega
theorem row_sm {ts : List Tr} (h : TT.wordsOf ts) : Sm (31 * knotsOf ts) ⟨(txts false ts).toArray⟩ := by
  refine ⟨fun c hc => sgn_asc (txts_sgn false ts (words_goods ts h) c (by simpa using hc)), ?_⟩
  rw [len_mk]
  exact txts_le false ts h
end TX
namespace TX
open PySem PySem.Spec PyProof.Rows L2 TT PySem.Builtin PySem.Builtin.Str
theorem rep_cps (c : Nat) : ∀ (n : Nat) (acc : Array Nat), (List.replicate n #[c]).foldl (· ++ ·) acc = acc ++ (List.replicate n c).toArray
  | 0, acc => by simp
  | n + 1, acc => by
    rw [List.replicate_succ, List.foldl_cons, rep_cps c n, List.replicate_succ]
    refine Array.toList_inj.mp ?_
    simp only [Array.toList_append, List.append_assoc]
    rfl
/-- one sign, n times -/
theorem op_mul_str {X : Cx} : OpR X (binaryOp .Mult) (fun x y H Q => ∃ (c : Nat) (n : Int), x = .str ⟨#[c]⟩ ∧ y = .int n ∧ 0 ≤ n ∧ n ≤ 100000 ∧ Q (.str ⟨(List.replicate n.toNat c).toArray⟩) H) := by
  intro pins s σ H x y v u Q I rx ry h
  obtain ⟨c, n, rfl, rfl, h0, h1, q⟩ := h
  obtain ⟨t, rfl⟩ := rx
  obtain ⟨t', rfl⟩ := ry
  have e24 : sizeLine = 16777216 := by decide
  have hl : (⟨#[c]⟩ : Str).length = 1 := rfl
  refine PySem.P.mul_str ?_ ?_ ?_ ?_
  · rw [decide_eq_false (by omega), decide_eq_false (by omega)]; rfl
  · intro hn _
    rw [hl]
    have : (1 : Int) ≤ (2 ^ 63 - 1) / n := by
      rw [Int.le_ediv_iff_mul_le (by omega)]
      omega
    omega
  · intro hn _
    unfold tooLong
    rw [hl]
    exact decide_eq_false (by omega)
  · by_cases hn : n < 1
    · rw [if_pos hn]
      have e : n = 0 := by omega
      subst e
      exact ⟨by decide, .str Str.empty, H, I.tok _, ⟨_, rfl⟩, q⟩
    · rw [if_neg hn, hl]
      by_cases h2 : n = 1
      · subst h2
        rw [if_pos (by decide)]
        exact ⟨.str ⟨#[c]⟩, H, I, ⟨t, rfl⟩, q⟩
      · rw [if_neg (by simp [h2])]
        have e := rep_cps c n.toNat #[]
        rw [Array.empty_append] at e
        refine ⟨?_, .str _, H, I.tok _, ⟨_, rfl⟩, ?_⟩
        · show (List.foldl (fun x1 x2 => x1 ++ x2) #[] (List.replicate n.toNat #[c])).size ≤ sizeLine
          rw [e, List.size_toArray, List.length_replicate]
          omega
        · show Q (.str ⟨List.foldl (fun x1 x2 => x1 ++ x2) #[] (List.replicate n.toNat #[c])⟩) H
          rw [e]
          exact q
end TX
namespace TX
open PySem PySem.Builtin PySem.Builtin.Str PySem.StrLaws TT
/-! ### the pile of _law_line_of: trees, and brackets to be closed (none) -/
def sOut : Bool → List (Option Tr) → List Nat
  | _, [] => []
  | _, none :: r => 41 :: sOut true r
  | b, some t :: r => (if b = true then [32] else []) ++ (txt t ++ sOut true r)
def nb (x : List Nat) : Bool := match x.getLast? with
  | none => false
  | some c => c != 40
def wt : List (Option Tr) → Nat
  | [] => 0
  | none :: r => 1 + wt r
  | some t :: r => 2 * t.knots + wt r
def itemD : Option Tr → D
  | none => .str ⟨#[41]⟩
  | some t => t.d
theorem sOut_map : ∀ (b : Bool) (ts : List Tr) (r : List (Option Tr)), sOut b (ts.map some ++ r) = txts b ts ++ sOut (b || !ts.isEmpty) r
  | b, [], r => by simp [txts]
  | b, t :: ts, r => by
    rw [List.map_cons, List.cons_append, sOut, sOut_map true ts r, txts]
    simp
theorem wt_append : ∀ (a b : List (Option Tr)), wt (a ++ b) = wt a + wt b
  | [], b => by simp [wt]
  | none :: a, b => by rw [List.cons_append, wt, wt, wt_append a b]; omega
  | some t :: a, b => by rw [List.cons_append, wt, wt, wt_append a b]; omega
theorem wt_map : ∀ (ts : List Tr), wt (ts.map some) = 2 * knotsOf ts
  | [] => rfl
  | t :: ts => by rw [List.map_cons, wt, wt_map ts, knotsOf]; omega
theorem len_wt : ∀ (us : List (Option Tr)), us.length ≤ wt us
  | [] => Nat.le_refl _
  | none :: r => by have := len_wt r; rw [wt, List.length_cons]; omega
  | some t :: r => by have := len_wt r; have := knots_eq t; rw [wt, List.length_cons]; omega
theorem nb_snoc (x : List Nat) (c : Nat) : nb (x ++ [c]) = (c != 40) := by simp [nb]
theorem nb_word {x m : List Nat} (h : Wrd m) : nb (x ++ m) = true := by
  obtain ⟨hn, hl⟩ := h
  obtain ⟨a, c, rfl⟩ : ∃ a c, m = a ++ [c] := ⟨m.dropLast, m.getLast hn, (List.dropLast_concat_getLast hn).symm⟩
  have := hl c (by simp)
  simp only [low, Bool.and_eq_true, decide_eq_true_eq] at this
  rw [← List.append_assoc, nb_snoc, bne_iff_ne]
  omega
/-- a bracket comes off the pile -/
theorem sOut_close {x : List Nat} {us : List (Option Tr)} {l : List Nat} (h : x ++ sOut (nb x) (none :: us) = l) : (x ++ [41]) ++ sOut (nb (x ++ [41])) us = l := by
  rw [nb_snoc, ← h, sOut]
  simp
/-- a tree comes off the pile -/
theorem sOut_tree {x : List Nat} {m : Str} {ks : List Tr} {us : List (Option Tr)} {l : List Nat} (h : x ++ sOut (nb x) (some (.node m ks) :: us) = l) (hm : Wrd m.cps.toList) :
    (ks = [] → (x ++ (if nb x = true then [32] else []) ++ m.cps.toList) ++ sOut (nb (x ++ (if nb x = true then [32] else []) ++ m.cps.toList)) us = l) ∧
    (ks ≠ [] → (x ++ (if nb x = true then [32] else []) ++ m.cps.toList ++ [40]) ++ sOut (nb (x ++ (if nb x = true then [32] else []) ++ m.cps.toList ++ [40])) (ks.map some ++ none :: us) = l) := by
  rw [sOut] at h
  constructor
  · rintro rfl
    rw [nb_word hm, ← h, txt]
    simp
  · intro hk
    rw [nb_snoc, ← h, txt_node _ hk, sOut_map]
    simp [sOut]
theorem mk_app (x : List Nat) (m : Str) : (⟨x.toArray⟩ : Str) ++ m = ⟨(x ++ m.cps.toList).toArray⟩ := by
  refine Str.ext' (Array.toList_inj.mp ?_)
  rw [Str.cps_append, Array.toList_append]
theorem reps_rev {G : L2.Hp} : ∀ {vs : List L2.V} {ds : List D}, Reps G vs ds → Reps G vs.reverse ds.reverse
  | _, _, .nil => .nil
  | _, _, .cons r t => by
    rw [List.reverse_cons, List.reverse_cons]
    exact (reps_rev t).append (.cons r .nil)
end TX
namespace TX
open PySem TT
/-! ### the line as it is written knot by knot -/
/-- what stands ahead of a knot at depth d behind one at depth e -/
def jn (e d : Nat) : List Nat := if e = 0 then [] else if e < d then [40] else List.replicate (e - d) 41 ++ [32]
def stp (s : List Nat × Nat) (k : Nat × Str) : List Nat × Nat := (s.1 ++ (jn s.2 k.1 ++ k.2.cps.toList), k.1)
mutual
/-- the knots of a tree, of a row, with their depths, from the front -/
def knT : Nat → Tr → List (Nat × Str)
  | d, .node m ks => (d, m) :: knR (d + 1) ks
def knR : Nat → List Tr → List (Nat × Str)
  | _, [] => []
  | d, t :: ts => knT d t ++ knR d ts
end
theorem rep_succ41 (n : Nat) : List.replicate n 41 ++ [41] = List.replicate (n + 1) 41 := by
  rw [List.replicate_succ']
theorem txts_false_cons (t : Tr) {ts : List Tr} (h : ts ≠ []) : txts false (t :: ts) = txt t ++ ([32] ++ txts false ts) := by
  cases ts with
  | nil => exact absurd rfl h
  | cons u us => simp [txts]
mutual
theorem run_tree : ∀ (t : Tr) (d : Nat) (x : List Nat) (e : Nat), 1 ≤ d → ∃ y f, (knT d t).foldl stp (x, e) = (y, f) ∧ d ≤ f ∧ y ++ List.replicate (f - d) 41 = x ++ (jn e d ++ txt t)
  | .node m ks, d, x, e, hd => by
    rw [knT, List.foldl_cons]
    cases ks with
    | nil => exact ⟨_, d, rfl, Nat.le_refl _, by simp [stp, txt]⟩
    | cons k kr =>
      obtain ⟨y, f, h1, h2, h3⟩ := run_row (k :: kr) (d + 1) (stp (x, e) (d, m)).1 d (by omega) (List.cons_ne_nil _ _)
      refine ⟨y, f, h1, by omega, ?_⟩
      have e1 : f - d = (f - (d + 1)) + 1 := by omega
      have e2 : jn d (d + 1) = [40] := by rw [jn, if_neg (by omega), if_pos (by omega)]
      rw [e1, ← rep_succ41, ← List.append_assoc, h3, e2, txt_node _ (List.cons_ne_nil _ _)]
      simp [stp]
theorem run_row : ∀ (ts : List Tr) (d : Nat) (x : List Nat) (e : Nat), 1 ≤ d → ts ≠ [] → ∃ y f, (knR d ts).foldl stp (x, e) = (y, f) ∧ d ≤ f ∧ y ++ List.replicate (f - d) 41 = x ++ (jn e d ++ txts false ts)
  | [], _, _, _, _, h => absurd rfl h
  | t :: ts, d, x, e, hd, _ => by
    obtain ⟨y, f, h1, h2, h3⟩ := run_tree t d x e hd
    rw [knR, List.foldl_append, h1]
    by_cases hts : ts = []
    · subst hts
      refine ⟨y, f, rfl, h2, ?_⟩
      rw [h3]
      simp [txts]
    · obtain ⟨y2, f2, g1, g2, g3⟩ := run_row ts d y f hd hts
      refine ⟨y2, f2, g1, g2, ?_⟩
      have e1 : jn f d = List.replicate (f - d) 41 ++ [32] := by rw [jn, if_neg (by omega), if_neg (by omega)]
      rw [g3, e1, txts_false_cons t hts]
      have : y ++ (List.replicate (f - d) 41 ++ [32] ++ txts false ts) = (y ++ List.replicate (f - d) 41) ++ ([32] ++ txts false ts) := by simp
      rw [this, h3]
      simp
end
/-- the line that comes of it -/
theorem run_all (ts : List Tr) : ((knR 1 ts).foldl stp ([], 0)).1 ++ List.replicate (((knR 1 ts).foldl stp ([], 0)).2 - 1) 41 = txts false ts := by
  by_cases h : ts = []
  · subst h
    rfl
  · obtain ⟨y, f, h1, h2, h3⟩ := run_row ts 1 [] 0 (Nat.le_refl _) h
    rw [h1, h3]
    rfl
/-- the knots by their paths -/
def mkD (ts : List Tr) (p : List Int) : Nat × Str := (p.length, (down ts p.dropLast).elim ⟨#[]⟩ fun bs => (bs[(p.getLastD 0).toNat]?).elim ⟨#[]⟩ Tr.mark)
end TX
namespace TX
open PySem TT
theorem mkD_at {root bs : List Tr} {q : List Int} {i : Nat} {t : Tr} (h : down root q = some bs) (ht : bs[i]? = some t) : mkD root (q ++ [(i : Int)]) = (q.length + 1, t.mark) := by
  unfold mkD
  rw [List.dropLast_concat, h]
  simp [ht]
theorem knR_pps : ∀ (n : Nat) (ts : List Tr), knotsOf ts ≤ n → ∀ (pre : List Tr) (q : List Int) (root : List Tr), down root q = some (pre ++ ts) → (pps pre.length ts).map (fun p => mkD root (q ++ p)) = knR (q.length + 1) ts
  | _, [], _, _, _, _, _ => by simp [pps, knR]
  | 0, t :: ts, hn, _, _, _, _ => by rw [knotsOf, knots_eq] at hn; omega
  | n + 1, t :: ts, hn, pre, q, root, h => by
    rw [knotsOf, knots_eq] at hn
    have hat : (pre ++ t :: ts)[pre.length]? = some t := by simp
    have hd2 : down root (q ++ [(pre.length : Int)]) = some t.kids := by
      rw [down_append, h]
      show down (pre ++ t :: ts) [(pre.length : Int)] = some t.kids
      rw [down, if_neg (by omega), Int.toNat_natCast, hat]
      rfl
    have ih1 := knR_pps n t.kids (by omega) [] (q ++ [(pre.length : Int)]) root hd2
    have ih2 := knR_pps n ts (by omega) (pre ++ [t]) q root (by simpa using h)
    have e1 : t = .node t.mark t.kids := by cases t; rfl
    rw [List.length_append, List.length_singleton] at ih1 ih2
    rw [pps, knR, List.map_append, ih2, pp_eq, List.map_cons, List.map_cons, mkD_at h hat, List.map_map]
    have e2 : knT (q.length + 1) t = (q.length + 1, t.mark) :: knR (q.length + 1 + 1) t.kids := by
      conv => lhs; rw [e1]
      rw [knT]
    rw [e2, ← ih1]
    congr 2
    refine List.map_congr_left fun p _ => ?_
    show mkD root (q ++ ((pre.length : Int) :: p)) = mkD root (q ++ [(pre.length : Int)] ++ p)
    rw [List.append_assoc]
    rfl
theorem knots_pps (ts : List Tr) : (pps 0 ts).map (mkD ts) = knR 1 ts := by
  have := knR_pps _ ts (Nat.le_refl _) [] [] ts rfl
  simpa using this
/-- each path of the row leads to a knot -/
theorem path_knot {T : List Tr} {p : List Int} (h : p ∈ pps 0 T) : ∃ bs t, p ≠ [] ∧ down T p.dropLast = some bs ∧ 0 ≤ p.getLastD 0 ∧ bs[(p.getLastD 0).toNat]? = some t ∧ mkD T p = (p.length, t.mark) := by
  obtain ⟨u, hu⟩ := down_pps _ T (Nat.le_refl _) [] p h
  rw [show ([] : List Tr) ++ T = T from rfl] at hu
  have hne : p ≠ [] := by
    rintro rfl
    have hl : ∀ (ts : List Tr) (i : Nat), [] ∉ pps i ts := by
      intro ts
      induction ts with
      | nil => intro i h; simp [pps] at h
      | cons t ts ih =>
        intro i h
        rw [pps] at h
        rcases List.mem_append.mp h with h | h
        · obtain ⟨q, _, e⟩ := List.mem_map.mp h
          cases e
        · exact ih _ h
    exact hl T 0 h
  obtain ⟨q, i, rfl⟩ : ∃ q i, p = q ++ [i] := ⟨p.dropLast, p.getLast hne, (List.dropLast_concat_getLast hne).symm⟩
  have hs : (down T (q ++ [i])).isSome = true := by rw [hu]; rfl
  obtain ⟨us, t, h1, h2, h3, _⟩ := down_at hs (i := q.length) (by simp)
  rw [List.take_left' rfl] at h1
  have e2 : (q ++ [i])[q.length]'(by simp) = i := by simp
  rw [e2] at h2 h3
  have e3 : (q ++ [i]).getLastD 0 = i := by simp
  refine ⟨us, t, hne, by rw [List.dropLast_concat]; exact h1, by rw [e3]; exact h2, by rw [e3]; exact h3, ?_⟩
  obtain ⟨j, rfl⟩ := Int.eq_ofNat_of_zero_le h2
  rw [mkD_at h1 (by simpa using h3)]
  simp
end TX
namespace TX
open PySem PySem.Builtin PySem.Builtin.Str PySem.StrLaws TT
/-- what may follow a tree -/
def aft (r : List Nat) : Prop := r = [] ∨ ∃ c r', r = c :: r' ∧ (c = 41 ∨ c = 32)
theorem aft_close (r : List Nat) : aft (41 :: r) := .inr ⟨_, _, rfl, .inl rfl⟩
theorem aft_rest {ts : List Tr} {r : List Nat} (h : aft r) : aft (txts true ts ++ r) := by
  cases ts with
  | nil => rw [txts]; exact h
  | cons t ts => rw [txts, if_pos rfl]; exact .inr ⟨32, _, rfl, .inr rfl⟩
theorem chk_word : ∀ (m : List Nat) (p : Nat) (d : Int) (r : List Nat), m ≠ [] → (∀ c ∈ m, low c = true) → p = 40 ∨ p = 32 ∨ p = 97 → 0 ≤ d → chk p d (m ++ r) = chk 97 d r
  | [], _, _, _, h, _, _, _ => absurd rfl h
  | [c], p, d, r, _, hl, hp, hd => by
    have h := hl c List.mem_cons_self
    rw [List.singleton_append, chk, kind_low h, dep_low d h, decide_eq_true hd]
    rcases hp with rfl | rfl | rfl <;> rfl
  | c :: c2 :: m, p, d, r, _, hl, hp, hd => by
    have h := hl c List.mem_cons_self
    have ih := chk_word (c2 :: m) 97 d r (by simp) (fun x hx => hl x (List.mem_cons_of_mem _ hx)) (.inr (.inr rfl)) hd
    rw [List.cons_append, chk, kind_low h, dep_low d h, decide_eq_true hd, ih]
    rcases hp with rfl | rfl | rfl <;> rfl
theorem chk_end {r : List Nat} (h : aft r) (d : Int) : chk 97 d r = chk 41 d r := by
  rcases h with rfl | ⟨c, r', rfl, rfl | rfl⟩ <;> rfl
mutual
theorem chk_txt : ∀ (t : Tr) (p : Nat) (d : Int) (r : List Nat), good t → p = 40 ∨ p = 32 → 0 ≤ d → aft r → chk p d (txt t ++ r) = chk 41 d r
  | .node m ks, p, d, r, h, hp, hd, hr => by
    rw [good] at h
    rw [txt, List.append_assoc, chk_word _ _ _ _ h.1.1 h.1.2 (by rcases hp with q | q <;> simp [q]) hd]
    cases ks with
    | nil => exact chk_end hr d
    | cons k ks =>
      rw [if_neg (by simp), List.cons_append, List.append_assoc, chk]
      have e := chk_row (k :: ks) 40 (d + 1) ([41] ++ r) h.2 (by simp) (.inl rfl) (by omega) (aft_close r)
      have e1 : dep d 40 = d + 1 := rfl
      have e2 : kind 40 = 40 := rfl
      rw [e1, e2, e, List.singleton_append, chk]
      have e3 : dep (d + 1) 41 = d := by simp [dep]
      have e4 : kind 41 = 41 := rfl
      rw [e3, e4, decide_eq_true (show 0 ≤ d + 1 by omega), decide_eq_true hd]
      rfl
theorem chk_row : ∀ (ts : List Tr) (p : Nat) (d : Int) (r : List Nat), goods ts → ts ≠ [] → p = 40 ∨ p = 32 → 0 ≤ d → aft r → chk p d (txts false ts ++ r) = chk 41 d r
  | [], _, _, _, _, h, _, _, _ => absurd rfl h
  | t :: ts, p, d, r, h, _, hp, hd, hr => by
    rw [goods] at h
    rw [txts, if_neg (by simp), List.nil_append, List.append_assoc, chk_txt t p d _ h.1 hp hd (aft_rest hr)]
    exact chk_rest ts d r h.2 hd hr
theorem chk_rest : ∀ (ts : List Tr) (d : Int) (r : List Nat), goods ts → 0 ≤ d → aft r → chk 41 d (txts true ts ++ r) = chk 41 d r
  | [], _, _, _, _, _ => by rw [txts]; rfl
  | t :: ts, d, r, h, hd, hr => by
    rw [goods] at h
    have e1 : dep d 32 = d := rfl
    have e2 : kind 32 = 32 := rfl
    rw [txts, if_pos rfl, List.append_assoc, List.append_assoc, List.singleton_append, chk, e1, e2, decide_eq_true hd, chk_txt t 32 d _ h.1 (.inr rfl) hd (aft_rest hr), chk_rest ts d r h.2 hd hr]
    rfl
end
/-- the line of a row fits -/
theorem chk_line {ts : List Tr} (h : goods ts) (h0 : ts ≠ []) : chk 40 0 (txts false ts) = true := by
  have := chk_row ts 40 0 [] h h0 (.inl rfl) (Int.le_refl _) (.inl rfl)
  rw [List.append_nil] at this
  rw [this]
  rfl
theorem spl_word : ∀ (m w r : List Nat), (∀ c ∈ m, low c = true) → spl w (m ++ r) = spl (w ++ m) r
  | [], w, r, _ => by rw [List.nil_append, List.append_nil]
  | c :: m, w, r, h => by
    rw [List.cons_append, spl_low (h c List.mem_cons_self), spl_word m _ r fun x hx => h x (List.mem_cons_of_mem _ hx), List.append_assoc]
    rfl
theorem spl_stop {m r : List Nat} (hm : m ≠ []) (h : aft r ∨ ∃ r', r = 40 :: r') : spl m r = ⟨m.toArray⟩ :: spl [] r := by
  have hf : flush m = [⟨m.toArray⟩] := by rw [flush, if_neg hm]
  have h0 : flush [] = [] := rfl
  rcases h with (rfl | ⟨c, r', rfl, rfl | rfl⟩) | ⟨r', rfl⟩
  · rw [spl, spl, hf, h0]
  · rw [spl, spl, if_neg (by decide), if_pos rfl, if_neg (by decide), if_pos rfl, hf, h0]; rfl
  · rw [spl, spl, if_neg (by decide), if_neg (by decide), if_pos rfl, if_neg (by decide), if_neg (by decide), if_pos rfl, hf, h0]; rfl
  · rw [spl, spl, if_pos rfl, if_pos rfl, hf, h0]; rfl
theorem leaf_mark (m : Str) : leaf m.cps.toList = .node m [] := by
  show Tr.node ⟨m.cps.toList.toArray⟩ [] = _
  rw [Array.toArray_toList]
mutual
theorem run_txt : ∀ (t : Tr) (cur : List Tr) (fs : List (List Tr)) (r : List Nat), good t → aft r → lvRun (cur :: fs) (spl [] (txt t ++ r)) = lvRun ((cur ++ [t]) :: fs) (spl [] r)
  | .node m ks, cur, fs, r, h, hr => by
    rw [good] at h
    rw [txt, List.append_assoc, spl_word _ _ _ h.1.2, List.nil_append]
    cases ks with
    | nil =>
      show lvRun (cur :: fs) (spl m.cps.toList r) = _
      rw [spl_stop h.1.1 (.inl hr), run_word h.1, leaf_mark]
    | cons k ks =>
      rw [if_neg (by simp), List.cons_append, List.append_assoc, spl_stop h.1.1 (.inr ⟨_, rfl⟩), run_word h.1, spl, if_pos rfl]
      show lvRun ((cur ++ [leaf m.cps.toList]) :: fs) (⟨#[40]⟩ :: spl [] (txts false (k :: ks) ++ ([41] ++ r))) = _
      rw [run_open, run_txts (k :: ks) false [] _ ([41] ++ r) h.2 (aft_close r), List.nil_append, List.singleton_append, spl, if_neg (by decide), if_pos rfl]
      show lvRun ((k :: ks) :: (cur ++ [leaf m.cps.toList]) :: fs) (⟨#[41]⟩ :: spl [] r) = _
      rw [run_close, leaf_mark]
      rfl
theorem run_txts : ∀ (ts : List Tr) (b : Bool) (cur : List Tr) (fs : List (List Tr)) (r : List Nat), goods ts → aft r → lvRun (cur :: fs) (spl [] (txts b ts ++ r)) = lvRun ((cur ++ ts) :: fs) (spl [] r)
  | [], b, cur, fs, r, _, _ => by rw [txts, List.append_nil]; rfl
  | t :: ts, b, cur, fs, r, h, hr => by
    rw [goods] at h
    have e : spl [] (txts b (t :: ts) ++ r) = spl [] (txt t ++ (txts true ts ++ r)) := by
      rw [txts, List.append_assoc, List.append_assoc]
      cases b with
      | false => rfl
      | true =>
        rw [if_pos rfl, List.singleton_append, spl, if_neg (by decide), if_neg (by decide), if_pos rfl]
        rfl
    rw [e, run_txt t cur fs _ h.1 (aft_rest hr), run_txts ts true _ fs r h.2 hr, List.append_assoc]
    rfl
end
/-- a line is the line of one row only -/
theorem line_one {a b : List Tr} (ha : goods a) (hb : goods b) (h : txts false a = txts false b) : a = b := by
  have e : ∀ ts, goods ts → lvRun [[]] (spl [] (txts false ts)) = some [ts] := fun ts ht => by
    have := run_txts ts false [] [] [] ht (.inl rfl)
    rw [List.append_nil, List.nil_append] at this
    rw [this]
    rfl
  have e1 := e a ha
  rw [h, e b hb] at e1
  injection e1 with e1
  injection e1 with e1
  exact e1.symm
end TX
namespace TT
open PySem
/-! ### the paths of a row rise -/
theorem lex_cons (i : Int) (a b : List Int) : HT.lexLt (i :: a) (i :: b) = HT.lexLt a b := by rw [HT.lexLt, if_pos rfl]
theorem pps_head : ∀ (ts : List Tr) (i : Nat), ∀ q ∈ pps i ts, ∃ (j : Nat) (r : List Int), q = (j : Int) :: r ∧ i ≤ j
  | [], i, q, h => by rw [pps] at h; simp at h
  | t :: ts, i, q, h => by
    rw [pps] at h
    rcases List.mem_append.mp h with h | h
    · obtain ⟨y, _, rfl⟩ := List.mem_map.mp h
      exact ⟨i, y, rfl, Nat.le_refl _⟩
    · obtain ⟨j, r, e, hj⟩ := pps_head ts (i + 1) q h
      exact ⟨j, r, e, by omega⟩
mutual
theorem Tr.pp_rising : ∀ t : Tr, Rising t.pp
  | .node m ks => by
    rw [Tr.pp]
    refine List.pairwise_cons.mpr ⟨fun q hq => ?_, pps_rising 0 ks⟩
    obtain ⟨j, r, rfl, _⟩ := pps_head ks 0 q hq
    rfl
theorem pps_rising : ∀ (i : Nat) (ts : List Tr), Rising (pps i ts)
  | i, [] => by rw [pps]; exact List.Pairwise.nil
  | i, t :: ts => by
    rw [pps]
    refine List.pairwise_append.mpr ⟨?_, pps_rising (i + 1) ts, fun a ha b hb => ?_⟩
    · refine List.pairwise_map.mpr ((Tr.pp_rising t).imp fun {a b} h => ?_)
      show HT.lexLt ((i : Int) :: b) ((i : Int) :: a) = false
      rw [lex_cons]
      exact h
    · obtain ⟨y, _, rfl⟩ := List.mem_map.mp ha
      obtain ⟨j, r, rfl, hj⟩ := pps_head ts (i + 1) b hb
      rw [HT.lexLt, if_neg (by omega)]
      exact decide_eq_false (by omega)
end
theorem sorted_pps {ps : List (List Int)} {ts : List Tr} (h : ps.Perm (pps 0 ts)) (hr : Rising ps) : ps = pps 0 ts := rising_one _ _ h hr (pps_rising 0 ts)
end TT
namespace TT
open PySem PySem.Spec PyProof.Rows L2
/-! ### != of two rows -/
def rNeRow (K : PySem.W.Frag) : R2 := fun x y H Q => ∃ (G : Hp) (ts us : List Tr), Same G H ∧ Rep G x (rowD ts) ∧ Rep G y (rowD us) ∧ knotsOf ts ≤ 100 ∧ ((ts = us → Q (.bl false) H) ∧ (ts ≠ us → Q (.bl true) H))
theorem op_neRow {X : Cx} {k : Nat} (hr : Room k X.A) : OpR X (compareOp .NotEq) (rNeRow X.K) := by
  intro pins s σ H x y v u Q I rx ry h
  obtain ⟨G, ts, us, sm, r1, r2, hk, q1, q2⟩ := h
  have hun := hr.un
  obtain ⟨a, av, rfl, ha, ra⟩ := r1.row
  obtain ⟨c, cv, rfl, hc, rc⟩ := r2.row
  cases (show v = Value.ref a from rx)
  cases (show u = Value.ref c from ry)
  obtain ⟨xs, rv, p1, _⟩ := I.list (SqL.of (K := X.K) (sm _ _ ha))
  obtain ⟨ys, rw', p2, _⟩ := I.list (SqL.of (K := X.K) (sm _ _ hc))
  obtain ⟨f, hf, hi⟩ := items_eq (s := s) (A := X.A.in1) ra rc rv rw' (fun j v w d e p q hd he rd re rp rq => by
    rw [List.getElem?_map] at hd he
    obtain ⟨k1, h1, rfl⟩ := Option.map_eq_some_iff.mp hd
    obtain ⟨k2, h2, rfl⟩ := Option.map_eq_some_iff.mp he
    have hkn := knots_mem (List.mem_of_getElem? h1)
    exact tree_eq I.hok sm 100 X.A.in1 k1 k2 v w p q (by omega) (by show X.A.units + 1 + 100 < cLine; omega) rd re rp rq)
  have l1 := rv.length
  have l2 := rw'.length
  have l3 := ra.length
  have l4 := rc.length
  by_cases hl : xs.length = ys.length
  · have key : (List.range xs.toArray.size).all f = true ↔ ts = us := by
      rw [all_iff, List.size_toArray]
      constructor
      · intro h
        refine rowD_one ?_
        unfold rowD
        congr 1
        exact lists_same (by omega) fun j hj => (hi j hj (by omega)).mp (h j (by omega))
      · rintro rfl j hj
        exact (hi j (by omega) (by omega)).mpr rfl
    refine SeqAt.RcNeAt.lists p1.isList p2.isList (by rw [List.size_toArray, List.size_toArray]; exact hl) (by omega) hf X.prog X.w X.xe _ ?_
    cases hb : (List.range xs.toArray.size).all f with
    | true => exact ⟨.bl false, H, I, rfl, q1 (key.mp hb)⟩
    | false => exact ⟨.bl true, H, I, rfl, q2 fun z => by rw [key.mpr z] at hb; cases hb⟩
  · refine SeqAt.RcNeAt.lists_lengths p1.isList p2.isList (by rw [List.size_toArray, List.size_toArray, bne_iff_ne]; exact hl) (by omega) X.prog X.w X.xe _ ⟨.bl true, H, I, rfl, q2 fun z => ?_⟩
    subst z
    omega
end TT
namespace PySem
open Sem (wp)
namespace F
theorem owner_rvd : Manifest.owners.lookup (String.ofList ['d', 'e', 's', 'r', 'e', 'v', 'e', 'r'].reverse) = some Manifest.sig_reversed := by kernel_rfl
theorem slot_rvd_next : Slot "reversed" "__next__" "reversed.__next__" :=
  .of (owner := "reversed") (n := "__next__") (by rw [typeLookup_type, builtinLookup_eq_fast]; kernel_rfl) (by decide +kernel) (by decide +kernel) (by decide +kernel)
    (by first | exact .inl (by decide +kernel) | exact .inr (by decide +kernel)) (by rw [isSubtype_type]; kernel_rfl)
theorem entry_rvd_next : entryFor table "reversed.__next__" = some Builtin.«reversed.__next__» := entryFor_of_tree (by kernel_rfl)
theorem args_rvd_next_1 (a : Value) : argsOk "reversed.__next__" ⟨[a], []⟩ := by
  unfold argsOk; rw [signature?_of (id := "reversed.__next__") (n := ['_', '_', 't', 'x', 'e', 'n', '_', '_']) (o := ['d', 'e', 's', 'r', 'e', 'v', 'e', 'r']) (by kernel_rfl) owner_rvd]; kernel_rfl
theorem slot_rvd_iter : Slot "reversed" "__iter__" "reversed.__iter__" :=
  .of (owner := "reversed") (n := "__iter__") (by rw [typeLookup_type, builtinLookup_eq_fast]; kernel_rfl) (by decide +kernel) (by decide +kernel) (by decide +kernel)
    (by first | exact .inl (by decide +kernel) | exact .inr (by decide +kernel)) (by rw [isSubtype_type]; kernel_rfl)
theorem args_rvd_iter_1 (a : Value) : argsOk "reversed.__iter__" ⟨[a], []⟩ := by
  unfold argsOk; rw [signature?_of (id := "reversed.__iter__") (n := ['_', '_', 'r', 'e', 't', 'i', '_', '_']) (o := ['d', 'e', 's', 'r', 'e', 'v', 'e', 'r']) (by kernel_rfl) owner_rvd]; kernel_rfl
theorem entry_rvd_iter : entryFor table "reversed.__iter__" = some Builtin.«dict_keyiterator.__iter__» :=
  entryFor_alias (id' := "dict_keyiterator.__iter__") (by kernel_rfl) (by first | rfl | decide +kernel | (unfold String.splitOn; simp +decide [String.splitOnAux])) (by decide +kernel) (by kernel_rfl)
theorem slot_rvd_hint : Slot "reversed" "__length_hint__" "reversed.__length_hint__" :=
  .of (owner := "reversed") (n := "__length_hint__") (by rw [typeLookup_type, builtinLookup_eq_fast]; kernel_rfl) (by decide +kernel) (by decide +kernel) (by decide +kernel)
    (by first | exact .inl (by decide +kernel) | exact .inr (by decide +kernel)) (by rw [isSubtype_type]; kernel_rfl)
theorem entry_rvd_hint : entryFor table "reversed.__length_hint__" = some Builtin.«reversed.__length_hint__» := entryFor_of_tree (by kernel_rfl)
theorem args_rvd_hint_1 (a : Value) : argsOk "reversed.__length_hint__" ⟨[a], []⟩ := by
  unfold argsOk; rw [signature?_of (id := "reversed.__length_hint__") (n := ['_', '_', 't', 'n', 'i', 'h', '_', 'h', 't', 'g', 'n', 'e', 'l', '_', '_']) (o := ['d', 'e', 's', 'r', 'e', 'v', 'e', 'r']) (by kernel_rfl) owner_rvd]; kernel_rfl
theorem rvd_no_len : typeLookup (.type "reversed") "__len__" = pure none := by rw [typeLookup_type, builtinLookup_eq_fast]; kernel_rfl
theorem tup_no_reversed : typeLookup (.type "tuple") "__reversed__" = pure none := by rw [typeLookup_type, builtinLookup_eq_fast]; kernel_rfl
theorem slot_rvd_init : Slot "reversed" "__init__" "object.__init__" :=
  .of (owner := "object") (n := "__init__") (by rw [typeLookup_type, builtinLookup_eq_fast]; kernel_rfl) (by decide +kernel) (by decide +kernel) (by decide +kernel)
    (by first | exact .inl (by decide +kernel) | exact .inr (by decide +kernel)) (by rw [isSubtype_type]; kernel_rfl)
theorem called_reversed : TypeCalled "reversed" "reversed.__new__" "object.__init__" :=
  ⟨by decide +kernel, by decide +kernel, ⟨_, _, mro_reversed⟩, made_reversed, by decide +kernel, by rw [isSubtype_type]; kernel_rfl, slot_rvd_init⟩
end F
end PySem
namespace PySem
open Sem (wp)
section
variable {prog : Program} {w : World} {A : Around} {E : Value → Shared → Prop} {s : Shared}
def rvdObj (t : Addr) (i : Int) : Obj := { cls := .type "reversed", data := .fields #[.ref t, rawInt i] }
def Heap.IsRvd (h : Heap) (a t : Addr) (i : Int) : Prop := ∃ o, h.get? a = some o ∧ o.cls = .type "reversed" ∧ o.data = .fields #[.ref t, rawInt i]
theorem Heap.IsRvd.typeIs {a t : Addr} {i : Int} (x : s.heap.IsRvd a t i) : s.TypeIs (.ref a) "reversed" := let ⟨o, ho, hc, _⟩ := x; ⟨o, ho, hc⟩
theorem Heap.IsRvd.at {h h' : Heap} {a t : Addr} {i : Int} (x : h.IsRvd a t i) (e : ∀ o, h.get? a = some o → h'.get? a = some o) : h'.IsRvd a t i := let ⟨o, ho, r⟩ := x; ⟨o, e _ ho, r⟩
open PyProof.Rows in
theorem code_reversed_tup {t : Addr} {items : Array Value} {Q₁ : Value → Shared → Prop} (ht : IsTup s.heap t items) (hfit : items.size ≤ sizeLine)
    (h : ∀ tk, Q₁ (.ref s.heap.objs.size) { s with heap := s.heap.push (rvdObj t ((items.size : Int) - 1)), toks := tk }) :
    codeAny (model prog w) A (.call (.builtin "reversed.__new__") ⟨[.type "reversed", .ref t], []⟩) (wants Q₁ E) s := by
  refine codeAny_of_tree ?_
  show wpAny _ A.in1 (do checkBuiltinCall "reversed.__new__" ⟨[.type "reversed", .ref t], []⟩; again (.builtin "reversed.__new__" ⟨[.type "reversed", .ref t], []⟩)) _ _ s
  refine wpAny_bind (wpAny_of_eq (F.newCall_reversed_1 _) (wpAny_pure ⟨plainId_quiet F.plain_reversed_new _, codeAny_builtin F.entry_reversed_new ?_⟩))
  rw [Around.under_plainId F.plain_reversed_new _]
  unfold Builtin.«reversed.__new__»
  refine wpAny_bind (wpAny_of_eq (newClass_reversed _) ?_)
  try dsimp only
  refine wpAny_bind (wpAny_of_eq (a := ()) (by first | rfl | kernel_rfl) ?_)
  refine wpAny_bind (wpAny_of_eq (a := ()) (by first | rfl | kernel_rfl) ?_)
  try dsimp only
  refine wpAny_bind (wpAny_specialOf ht.typeIs F.tup_no_reversed ?_)
  try dsimp only
  refine wpAny_bind ?_
  refine wpAny_bind (wpAny_isInstance (T := "tuple") (b := false) ht.typeIs F.sub_tuple_dict ?_)
  rw [if_neg Bool.false_ne_true]
  refine wpAny_bind (wpAny_specialOf ht.typeIs slot_tuple_getitem.lookup ?_)
  dsimp only
  rw [if_pos (by decide +kernel)]
  refine wpAny_pure ?_
  rw [if_neg (by decide)]
  have e24 : sizeLine = 16777216 := by decide
  refine wpAny_bind (len_tuple ht (by omega) ?_)
  refine wpAny_bind (wpAny_of_eq (a := some (items.size : Int)) rfl ?_)
  dsimp only
  refine wpAny_bind ?_
  unfold Builtin.SmallTypes.newRecord
  exact wpAny_newObj_type (wpAny_pure (h _))
open PyProof.Rows in
theorem call_reversed_tup {t : Addr} {items : Array Value} {Q : Value → Shared → Prop} (ht : IsTup s.heap t items) (hfit : items.size ≤ sizeLine)
    (h : ∀ tk, Q (.ref s.heap.objs.size) { s with heap := s.heap.push (rvdObj t ((items.size : Int) - 1)), toks := tk }) : wpAny (model prog w) A (call (.type "reversed") [.ref t]) Q E s := by
  refine callType_codes (Q₁ := fun obj s₁ => obj = .ref s.heap.objs.size ∧ ∃ tk, s₁ = { s with heap := s.heap.push (rvdObj t ((items.size : Int) - 1)), toks := tk }) F.called_reversed (F.typeCall_reversed_1 _) F.entry_object_init
    (code_reversed_tup ht hfit fun tk => ⟨rfl, tk, rfl⟩) fun obj s₁ h₁ => ?_
  obtain ⟨rfl, tk, rfl⟩ := h₁
  have hT : ({ s with heap := s.heap.push (rvdObj t ((items.size : Int) - 1)), toks := tk } : Shared).TypeIs (.ref s.heap.objs.size) "reversed" := ⟨_, Heap.get?_push_size _ rfl, rfl⟩
  exact ⟨hT, F.args_object_init_2 _ _, object_init_meets F.slot_rvd_init.lookup F.made_reversed (by decide) prog w A.in1 _ _ ⟨hT, rfl, h tk⟩⟩
open PyProof.Rows in
theorem wpAny_pyNext_rvd_item {it t : Addr} {i : Nat} {items : Array Value} {x : Value} {Q : Option Value → Shared → Prop} (hit : s.heap.IsRvd it t (i : Int)) (ht : IsTup s.heap t items) (hfit : items.size ≤ sizeLine) (hx : items[i]? = some x)
    (hQ : ∀ h' tk, h'.IsRvd it t ((i : Int) - 1) → Heap.SameBut it s.heap h' → Q (some x) { s with heap := h', toks := tk }) : wpAny (model prog w) A (pyNext (.ref it)) Q E s := by
  obtain ⟨o, ho, hc, hd⟩ := id hit
  have e24 : sizeLine = 16777216 := by decide
  have hlt : i < items.size := by
    obtain ⟨h1, _⟩ := Array.getElem?_eq_some_iff.mp hx
    exact h1
  unfold pyNext
  refine wpAny_bind (wpAny_attempt (wpAny_callSpecial?_slot (name := Str.ofString "__next__") hit.typeIs F.slot_rvd_next
    (wpAny_call_entry F.slot_rvd_next hit.typeIs F.entry_rvd_next ?_ (F.args_rvd_next_1 _))))
  unfold Builtin.«reversed.__next__»
  refine wpAny_bind (wpAny_of_eq (a := (Value.ref it, [])) rfl ?_)
  try dsimp only
  refine wpAny_bind (wpAny_field ho hd (x := .ref t) rfl ?_)
  refine wpAny_bind (wpAny_field ho hd (x := rawInt (i : Int)) rfl ?_)
  show wpAny _ _ (if (i : Int) < 0 then _ else _) _ _ s
  rw [if_neg (by omega)]
  refine wpAny_bind (wpAny_specialOf ht.typeIs slot_tuple_getitem.lookup ?_)
  rw [if_neg (by decide)]
  refine wpAny_bind (wpAny_mkInt ?_)
  refine wpAny_bind (wpAny_attempt (getItem_tuple ht (by omega) (by omega) (j := i) ?_ hx ?_))
  · rw [seqIndex?]; simp; omega
  dsimp only
  refine wpAny_bind (wpAny_field ho hd (x := rawInt (i : Int)) rfl ?_)
  dsimp only [rawInt]
  refine wpAny_bind (wpAny_setField ho hd (by simp) ?_)
  refine wpAny_pure ⟨x, rfl, wpAny_pure (hQ _ _ ?_ (Heap.SameBut.update ..))⟩
  exact ⟨_, Heap.get?_update_self _ ho (Obj.isFreed_of_fields (Obj.data_mapFields hd _)), (Obj.cls_mapFields ..).trans hc, by
    rw [Obj.data_mapFields hd]; simp [rawInt]⟩
theorem wpAny_pyNext_rvd_end {it t : Addr} {Q : Option Value → Shared → Prop} (hh : A.handled = none) (hit : s.heap.IsRvd it t (-1))
    (hQ : ∀ h', Heap.ExtBut it s.heap h' → Q none { s with heap := h' }) : wpAny (model prog w) A (pyNext (.ref it)) Q E s := by
  obtain ⟨o, ho, hc, hd⟩ := id hit
  unfold pyNext
  refine wpAny_bind (wpAny_attempt (wpAny_callSpecial?_slot (name := Str.ofString "__next__") hit.typeIs F.slot_rvd_next
    (wpAny_call_entry F.slot_rvd_next hit.typeIs F.entry_rvd_next ?_ (F.args_rvd_next_1 _))))
  unfold Builtin.«reversed.__next__»
  refine wpAny_bind (wpAny_of_eq (a := (Value.ref it, [])) rfl ?_)
  try dsimp only
  refine wpAny_bind (wpAny_field ho hd (x := .ref t) rfl ?_)
  refine wpAny_bind (wpAny_field ho hd (x := rawInt (-1)) rfl ?_)
  show wpAny _ _ (if (-1 : Int) < 0 then _ else _) _ _ s
  rw [if_pos (by decide)]
  refine wpAny_bind (wpAny_rule ?_)
  refine wpAny_bind ?_
  show wpAny _ _ (setField (.ref it) 1 (rawInt (-1)) >>= fun _ => setField (.ref it) 0 .none) _ _ _
  refine wpAny_bind (wpAny_setField ho hd (by simp) ?_)
  have ho2 := Heap.get?_update_self (Obj.mapFields fun x => x.setIfInBounds 1 (rawInt (-1))) ho (Obj.isFreed_of_fields (Obj.data_mapFields hd _))
  refine wpAny_setField ho2 (Obj.data_mapFields hd _) (by simp) ?_
  first
  | show wpAny _ _ (newExc (.type "StopIteration") [] >>= _) _ _ _
  | (refine wpAny_bind ?_; show wpAny _ _ (newExc (.type "StopIteration") [] >>= _) _ _ _)
  refine wpAny_bind ?_
  simp only [newExc, newTuple]
  refine wpAny_bind (wpAny_newObj_type ?_ (by size_fits))
  refine wpAny_bind (m := firstArgMember _ _) (wpAny_of_eq (a := Value.none) (by first | rfl | (simp only [firstArgMember]; rfl)) ?_)
  refine wpAny_newObj_type ?_ (by size_fits)
  simp only [raiseNew]
  refine wpAny_bind (wpAny_handled ?_)
  first | rw [show A.in1.handled = none from hh] | rw [hh]
  refine wpAny_bind (wpAny_pure (wpAny_throw ?_))
  refine wpAny_bind (wpAny_isInstance (T := "StopIteration") (b := true) ⟨_, Heap.get?_push_size _ rfl, rfl⟩ isSubtype_stop ?_)
  refine wpAny_pure (hQ _ ?_)
  refine Heap.ExtBut.push (Heap.ExtBut.push (fun b o hb e => ?_) _) _
  exact (Heap.get?_update_other _ _ (Ne.symm hb)).trans ((Heap.get?_update_other _ _ (Ne.symm hb)).trans e)
theorem wpAny_pyIter_rvd {it t : Addr} {i : Int} {Q : Value → Shared → Prop} (hit : s.heap.IsRvd it t i) (h : Q (.ref it) s) : wpAny (model prog w) A (pyIter (.ref it)) Q E s := by
  refine wpAny_pyIter_slot hit.typeIs F.slot_rvd_iter (wpAny_call_entry F.slot_rvd_iter hit.typeIs F.entry_rvd_iter ?_ (F.args_rvd_iter_1 _))
  show wpAny _ _ (ret (.ref it)) _ _ s
  exact wpAny_pure ⟨_, rfl, "reversed", _, hit.typeIs, F.slot_rvd_next.lookup, h⟩
open PyProof.Rows in
theorem Walks.tupRev (hh : A.handled = none) (I t : Addr) (hne : t ≠ I) (items : Array Value) (hfit : items.size ≤ sizeLine) :
    Walks prog w A I [I, t] [I] items.size (fun i v => items[items.size - 1 - i]? = some v) (fun i h => i ≤ items.size ∧ h.IsRvd I t ((items.size : Int) - 1 - (i : Int)) ∧ IsTup h t items) where
  sub := fun b hb => by simp at hb; simp [hb]
  frame := fun _ _ _ x hk => ⟨x.1, x.2.1.at fun o e => hk I (by simp) o e, (by obtain ⟨o, ho, r⟩ := x.2.2; exact ⟨o, hk t (by simp) o ho, r⟩)⟩
  item := fun i s Q E hi x hQ => by
    have e : (items.size : Int) - 1 - (i : Int) = ((items.size - 1 - i : Nat) : Int) := by omega
    have hit := x.2.1
    rw [e] at hit
    have hx : items[items.size - 1 - i]? = some (items[items.size - 1 - i]'(by omega)) := Array.getElem?_eq_getElem (by omega)
    refine wpAny_pyNext_rvd_item hit x.2.2 hfit hx fun h' tk hit' hs' => ?_
    have e2 : ((items.size - 1 - i : Nat) : Int) - 1 = (items.size : Int) - 1 - ((i + 1 : Nat) : Int) := by omega
    rw [e2] at hit'
    exact hQ _ h' tk hx ⟨hi, hit', (by obtain ⟨o, ho, r⟩ := x.2.2; exact ⟨o, (hs'.2 t hne).trans ho, r⟩)⟩ fun b o hb eo => hs'.extBut b o (fun h => hb (by simp [h])) eo
  done := fun s Q E x hQ => by
    have e : (items.size : Int) - 1 - (items.size : Int) = -1 := by omega
    have hit := x.2.1
    rw [e] at hit
    exact wpAny_pyNext_rvd_end hh hit fun h' he' => hQ h' s.toks fun b o hb eo => he' b o (fun h => hb (by simp [h])) eo
  self := fun _ _ _ _ x hQ => wpAny_pyIter_rvd x.2.1 hQ
open PyProof.Rows in
theorem hint_rvd {it t : Addr} {items : Array Value} {Q : Bool → Shared → Prop} (hit : s.heap.IsRvd it t ((items.size : Int) - 1)) (ht : IsTup s.heap t items) (hfit : items.size ≤ sizeLine) (h1 : 1 ≤ items.size) (h : ∀ tk, Q true { s with toks := tk }) : wpAny (model prog w) A (Builtin.List.listLengthHint (.ref it)) Q E s := by
  obtain ⟨o, ho, hc, hd⟩ := id hit
  have e24 : sizeLine = 16777216 := by decide
  unfold Builtin.List.listLengthHint
  refine wpAny_bind (wpAny_specialOf hit.typeIs F.rvd_no_len ?_)
  refine wpAny_bind (wpAny_specialOf hit.typeIs F.slot_rvd_hint.lookup ?_)
  generalize hid : ("reversed.__length_hint__" : String) = id0
  wp_delta
  rw [show splitId id0 = some ("reversed", "__length_hint__") from by subst hid; decide +kernel]
  subst hid
  refine wpAny_bind (wpAny_isInstance (T := "reversed") (b := true) hit.typeIs (by rw [isSubtype_type]; kernel_rfl) ?_)
  refine wpAny_ite_split (fun hab => absurd hab (by decide)) (fun _ => ?_)
  refine wpAny_ite_split (fun hab => absurd hab (by decide +kernel)) (fun _ => ?_)
  refine wpAny_bind (wpAny_rule ?_)
  refine wpAny_bind (wpAny_of_eq (F.slot_rvd_hint.bind _) ?_)
  dsimp only
  refine wpAny_bind (wpAny_attempt (wpAny_call_entry F.slot_rvd_hint hit.typeIs F.entry_rvd_hint ?_ (F.args_rvd_hint_1 _)))
  unfold Builtin.«reversed.__length_hint__»
  refine wpAny_bind (wpAny_of_eq (a := Value.ref it) rfl ?_)
  refine wpAny_bind (wpAny_field ho hd (x := .ref t) rfl ?_)
  rw [if_neg (show ¬ ((Value.ref t == Value.none) = true) from Bool.false_ne_true)]
  refine wpAny_bind (len_tuple ht (by omega) ?_)
  refine wpAny_bind (wpAny_of_eq (a := some (items.size : Int)) rfl ?_)
  dsimp only
  refine wpAny_bind (wpAny_field ho hd (x := rawInt ((items.size : Int) - 1)) rfl ?_)
  dsimp only [rawInt]
  rw [if_neg (by omega)]
  refine wpAny_bind (wpAny_mkInt (wpAny_pure ⟨_, rfl, ?_⟩))
  dsimp only
  refine wpAny_bind (wpAny_of_eq (a := some ((items.size : Int) - 1 + 1)) rfl ?_)
  dsimp only
  have e1 : Builtin.List.listFitsIndex ((items.size : Int) - 1 + 1) = true := by
    unfold Builtin.List.listFitsIndex
    simp only [Bool.and_eq_true, decide_eq_true_eq, Bool.not_eq_true', Bool.or_eq_false_iff, decide_eq_false_iff_not]
    omega
  have e2 : Builtin.List.listTooLong ((items.size : Int) - 1 + 1).toNat = false := by
    unfold Builtin.List.listTooLong
    simp only [decide_eq_false_iff_not]
    omega
  rw [e1, e2, if_neg (by decide), if_neg (by omega), if_neg (by decide)]
  have e3 : (((items.size : Int) - 1 + 1) != 0) = true := by
    rw [bne_iff_ne]; omega
  rw [e3]
  exact wpAny_pure (h _)
open PyProof.Rows in
theorem extend_rvd {R : Result → Shared → Prop} {it t : Addr} {items : Array Value} (hh : A.handled = none) (hit : s.heap.IsRvd it t ((items.size : Int) - 1)) (ht : IsTup s.heap t items) (hsz : items.size ≤ sizeLine) (h1 : 1 ≤ items.size)
    (S : Addr) (res : Value) (c₀ : Nat) (hS : s.heap.get? S = some { cls := .type "list", data := .seq #[] c₀ }) (hSl : S ≠ t)
    (hR : ∀ h' tk acc' c', (∀ b o, b ≠ S → b ≠ it → s.heap.get? b = some o → h'.get? b = some o) → h'.get? S = some { cls := .type "list", dict := none, data := .seq acc' c', slots := #[] } →
      ItemsOf (fun i v => items[items.size - 1 - i]? = some v) acc' items.size → R (.ok (.ret res)) { s with heap := h', toks := tk }) :
    wpAny (model prog w) A.in1 (Builtin.List.listExtendWith (.ref S) (.ref it) res)
      (fun fin s' => match fin with | .done f => R (.ok f) s' | .again c' => c'.quiet = true ∧ codeAny (model prog w) A c' R s') (fun e s' => R (.error e) s') s := by
  obtain ⟨oi, hoi, hci, hdi⟩ := id hit
  have hSi : S ≠ it := fun e => by
    rw [e, hoi] at hS
    injection hS with e1
    rw [e1] at hci
    exact absurd (show Value.type "list" = Value.type "reversed" from hci) (by decide)
  have hti : t ≠ it := fun e => by
    obtain ⟨o2, h2, c2, _⟩ := ht
    rw [e, hoi] at h2
    injection h2 with e1
    rw [e1, c2] at hci
    exact absurd hci (by decide)
  have hSf : S ∉ [it, t] := fun hm => by
    rcases List.mem_cons.mp hm with e | e
    · exact hSi e
    · exact hSl (List.mem_singleton.mp e)
  unfold Builtin.List.listExtendWith
  refine wpAny_bind (wpAny_typeOf (T := "reversed") hit.typeIs ?_)
  have h1' : Builtin.List.listSameRef (.ref S) (.ref it) = false := by simp [Builtin.List.listSameRef, hSi]
  have h2 : (Value.type "reversed" == Value.type "list") = false := by decide
  have h3 : (Value.type "reversed" == Value.type "tuple") = false := by decide
  simp only [h1', h2, h3, Bool.or_false, Bool.false_eq_true, if_false]
  refine wpAny_bind (wpAny_pyIter_rvd hit ?_)
  refine wpAny_bind (wpAny_holding (hint_rvd hit ht hsz h1 fun tk => ?_))
  refine wpAny_ite_split (fun _ => ?_) (fun hab => absurd (by rfl) hab)
  refine wpAny_bind (wpAny_rule ?_)
  refine wpAny_bind ?_
  unfold Builtin.List.listTouch
  show wpAny _ _ (updateSeq S (fun x => x.push .none) >>= fun _ => updateSeq S (fun x => x.pop)) _ _ _
  refine wpAny_bind (wpAny_updateSeq hS rfl ?_)
  have hS2 := Heap.get?_update_self (Obj.mapSeq (fun x : Array Value => x.push .none)) hS rfl
  refine wpAny_updateSeq hS2 rfl ?_
  have hS3 := Heap.get?_update_self (Obj.mapSeq (fun x : Array Value => x.pop)) hS2 rfl
  have oth : ∀ b o, b ≠ S → s.heap.get? b = some o → ((s.heap.update S (Obj.mapSeq (fun x : Array Value => x.push .none))).update S (Obj.mapSeq (fun x : Array Value => x.pop))).get? b = some o :=
    fun b o hb e => (Heap.get?_update_other _ _ (Ne.symm hb)).trans ((Heap.get?_update_other _ _ (Ne.symm hb)).trans e)
  refine wpAny_pure ⟨plainId_quiet F.plain_extend_loop _, codeAny_extend_loopS ((Walks.tupRev (prog := prog) (w := w) (A := A.in1) hh it t hti items hsz).toS) hsz _ hSf _ items.size 0 _ _ _ rfl (Nat.zero_le _) ⟨Nat.zero_le _, by simpa using hit.at fun o e => oth it o (Ne.symm hSi) e, (by obtain ⟨o, ho, r⟩ := ht; exact ⟨o, oth t o (Ne.symm hSl) ho, r⟩)⟩ hS3 (ItemsOf.nil _) fun s' acc' c' hm hS' hacc => ?_⟩
  rw [Moved.eq_with hm]
  refine hR s'.heap s'.toks acc' c' (fun b ob hb hb2 e => hm.heap b ob (fun hmem => ?_) (oth b ob hb e)) hS' hacc
  rcases List.mem_cons.mp hmem with e' | hmem
  · exact hb e'
  · exact hb2 (List.mem_singleton.mp hmem)
open PyProof.Rows in
theorem list_init_rvd {R : Result → Shared → Prop} {it t : Addr} {items : Array Value} (hh : A.handled = none) (hit : s.heap.IsRvd it t ((items.size : Int) - 1)) (ht : IsTup s.heap t items) (hsz : items.size ≤ sizeLine) (h1 : 1 ≤ items.size)
    (S : Addr) (hS : s.heap.get? S = some { cls := .type "list", data := .seq #[] }) (hSl : S ≠ t)
    (hR : ∀ h' tk acc' c', (∀ b o, b ≠ S → b ≠ it → s.heap.get? b = some o → h'.get? b = some o) → h'.get? S = some { cls := .type "list", dict := none, data := .seq acc' c', slots := #[] } →
      ItemsOf (fun i v => items[items.size - 1 - i]? = some v) acc' items.size → R (.ok (.ret .none)) { s with heap := h', toks := tk }) :
    wpAny (model prog w) A.in1 (Builtin.«list.__init__» ⟨[.ref S, .ref it], []⟩)
      (fun fin s' => match fin with | .done f => R (.ok f) s' | .again c' => c'.quiet = true ∧ codeAny (model prog w) A c' R s') (fun e s' => R (.error e) s') s := by
  show wpAny _ _ (do let old ← Builtin.List.listItems (.ref S); Builtin.List.listUpdate (.ref S) (fun _ => #[]); letGo old.toList.reverse; Builtin.List.listExtendWith (.ref S) (.ref it) .none) _ _ s
  have hSi : S ≠ it := fun e => by
    obtain ⟨oi, hoi, hci, hdi⟩ := hit
    rw [e, hoi] at hS
    injection hS with e1
    rw [e1] at hci
    exact absurd (show Value.type "list" = Value.type "reversed" from hci) (by decide)
  refine wpAny_bind ?_
  unfold Builtin.List.listItems
  refine wpAny_bind (wpAny_seqItems hS rfl (wpAny_pure ?_))
  show wpAny _ _ (updateSeq S (fun _ => #[]) >>= fun _ => letGo (#[] : Array Value).toList.reverse >>= fun _ => Builtin.List.listExtendWith (.ref S) (.ref it) .none) _ _ s
  refine wpAny_bind (wpAny_updateSeq hS rfl ?_)
  have hS₂ := Heap.get?_update_self (Obj.mapSeq (fun _ => (#[] : Array Value))) hS rfl
  have oth : ∀ b o, b ≠ S → s.heap.get? b = some o → (s.heap.update S (Obj.mapSeq (fun _ => (#[] : Array Value)))).get? b = some o :=
    fun b o hb e => (Heap.get?_update_other _ _ (Ne.symm hb)).trans e
  refine wpAny_bind (wpAny_letGo ?_)
  refine extend_rvd hh (hit.at fun o e => oth it o (Ne.symm hSi) e) (by obtain ⟨o, ho, r⟩ := ht; exact ⟨o, oth t o (Ne.symm hSl) ho, r⟩) hsz h1 S .none _ hS₂ hSl fun h' tk acc' c' hk hS' hacc => ?_
  exact hR h' tk acc' c' (fun b o hb hb2 e => hk b o hb hb2 (oth b o hb e)) hS' hacc
open PyProof.Rows in
theorem call_list_rvd {Q : Value → Shared → Prop} {it t : Addr} {items : Array Value} (hh : A.handled = none) (hit : s.heap.IsRvd it t ((items.size : Int) - 1)) (ht : IsTup s.heap t items) (hsz : items.size ≤ sizeLine) (h1 : 1 ≤ items.size)
    (hQ : ∀ h' tk acc' c', (∀ b o, b ≠ it → s.heap.get? b = some o → h'.get? b = some o) →
      h'.get? s.heap.objs.size = some { cls := .type "list", dict := none, data := .seq acc' c', slots := #[] } → ItemsOf (fun i v => items[items.size - 1 - i]? = some v) acc' items.size → Q (.ref s.heap.objs.size) { s with heap := h', toks := tk }) :
    wpAny (model prog w) A (call (.type "list") [.ref it]) Q E s := by
  refine callType_codes (Q₁ := fun obj s₁ => obj = .ref s.heap.objs.size ∧ s₁ = { s with heap := s.heap.push { cls := .type "list", data := .seq #[] } }) F.called_list (F.typeCall_list_1 _) F.entry_list_init
    (code_list_new _ ⟨rfl, rfl⟩) fun obj s₁ h₁ => ?_
  obtain ⟨rfl, rfl⟩ := h₁
  have hS : (s.heap.push { cls := .type "list", data := .seq #[] }).get? s.heap.objs.size = some { cls := .type "list", data := .seq #[] } := Heap.get?_push_size _ rfl
  have hSl : s.heap.objs.size ≠ t := fun e => by
    obtain ⟨o2, h2, _⟩ := ht
    exact absurd (Heap.lt_size h2) (by rw [← e]; exact Nat.lt_irrefl _)
  refine ⟨⟨_, hS, rfl⟩, F.args_list_init_2 _ _, list_init_rvd (A := A.in1) hh (hit.at fun o e => Heap.get?_push_of_some _ e) (by obtain ⟨o, ho, r⟩ := ht; exact ⟨o, Heap.get?_push_of_some _ ho, r⟩) hsz h1 _ hS hSl fun h' tk acc' c' hk hS' hacc => ?_⟩
  exact ⟨rfl, hQ h' tk acc' c' (fun b o hb e => hk b o (Nat.ne_of_lt (Heap.lt_size e)) hb (Heap.get?_push_of_some _ e)) hS' hacc⟩
end
end PySem
namespace TT
open PySem PySem.Spec PyProof.Rows L2
section
variable {X : Cx}
def tListRvd (K : PySem.W.Frag) (ta : TA) : TE := fun σ H Q => ta σ H fun vs H1 => ∃ a xs, vs = [.ref a] ∧ SqT K H1 a xs ∧ xs ≠ [] ∧ ∀ l, H1 l = none → Q (.ref l) (upd H1 l (.lst xs.reverse))
theorem pe_listRvd {e : Expr} {ta : TA} {p q pos pos2 : Pos} (hg : Gl X "reversed") (hm : X.mg "reversed" = none) (hg2 : Gl X "list") (hm2 : X.mg "list" = none) (hd : X.A.handled = none) (ha : PA X [e] ta) (hs : starEach [e] X.env = [(false, eval e X.env)] := by rfl)
    (hs2 : starEach [.Call (.Name "reversed" p) [e] [] pos] X.env = [(false, eval (.Call (.Name "reversed" p) [e] [] pos) X.env)] := by rfl) :
    PE X (.Call (.Name "list" q) [.Call (.Name "reversed" p) [e] [] pos] [] pos2) (tListRvd X.K ta) := by
  intro pins s σ H Q I h
  refine wpAny_Call_Name_kw (ld_blt I hg2 hm2 bt_list ?_)
  refine PyProof.Rows.callWith_type1 ?_ hs2 rfl
  rw [hs2]
  show wpAny _ _ (spliced ((false, eval (.Call (.Name "reversed" p) [e] [] pos) X.env) :: [])) _ _ s
  refine Calls.spliced_cons ?_
  refine Call_ (ld_blt I hg hm bt_reversed (PyProof.Rows.callWith_type1 (thn (ha pos pins s σ H _ I h) fun us s1 ⟨vs, H1, I1, r1, q1⟩ => ?_) hs rfl))
  obtain ⟨a, xs, e, hq, hne, q⟩ := q1
  subst e
  cases r1 with
  | cons r rr =>
    cases rr
    cases r
    obtain ⟨its, rv, pl, hz⟩ := I1.tuple hq
    have hl := rv.length
    have h1 : 1 ≤ its.toArray.size := by
      rw [List.size_toArray, ← hl]
      exact List.length_pos_iff.mpr hne
    have hsz : its.toArray.size ≤ sizeLine := by rw [List.size_toArray]; omega
    refine call_reversed_tup pl hsz fun tk0 => Calls.spliced_nil ?_
    have hit : (s1.heap.push (rvdObj a ((its.toArray.size : Int) - 1))).IsRvd s1.heap.objs.size a ((its.toArray.size : Int) - 1) := ⟨_, Heap.get?_push_size _ rfl, rfl, rfl⟩
    refine call_list_rvd (s := { s1 with heap := s1.heap.push (rvdObj a ((its.toArray.size : Int) - 1)), toks := tk0 }) hd hit (by obtain ⟨o, ho, r⟩ := pl; exact ⟨o, Heap.get?_push_of_some _ ho, r⟩) hsz h1 fun h' tk acc' c' kp e hacc => ?_
    have el := items_rev hacc
    have rr := vals_rev rv
    rw [← el] at rr
    have kp1 : ∀ b u, s1.heap.get? b = some u → h'.get? b = some u := fun b u eb => kp b u (Nat.ne_of_lt (Heap.lt_size eb)) (Heap.get?_push_of_some _ eb)
    have hfr : H1 (s1.heap.push (rvdObj a ((its.toArray.size : Int) - 1))).objs.size = none := I1.hok.fresh (by rw [Heap.size_push]; omega)
    refine ⟨.ref (s1.heap.push (rvdObj a ((its.toArray.size : Int) - 1))).objs.size, _, I1.laid (t' := tk) (o := .lst xs.reverse) kp1 (by rw [Heap.size_push]; omega) (show ObjOk X.prog X.w _ h' _ (.lst xs.reverse) from ⟨by rw [List.length_reverse]; exact hz, acc'.toList, c', rr, by simpa using e⟩), rfl, q _ hfr⟩
end
end TT
namespace TT
open PySem PySem.W PyProof.Rows

structure LOrd {α : Type} (lt : α → α → Bool) : Prop where
  irr : ∀ a, lt a a = false
  tr : ∀ a b c, lt a b = true → lt b c = true → lt a c = true
  neg : ∀ a b c, lt a c = true → lt a b = true ∨ lt b c = true
abbrev lle {α : Type} (lt : α → α → Bool) (a b : α) : Prop := lt b a = false
section
variable {α : Type} {lt : α → α → Bool}
theorem LOrd.rfl' (O : LOrd lt) (a : α) : lle lt a a := O.irr a
theorem LOrd.le_tr (O : LOrd lt) {a b c : α} (h1 : lle lt a b) (h2 : lle lt b c) : lle lt a c := by
  unfold lle at *
  cases h : lt c a with
  | false => rfl
  | true =>
    rcases O.neg c b a h with q | q
    · rw [h2] at q; cases q
    · rw [h1] at q; cases q
theorem LOrd.le_of (O : LOrd lt) {a b : α} (h : lt a b = true) : lle lt a b := by
  unfold lle
  cases q : lt b a with
  | false => rfl
  | true => have := O.tr _ _ _ h q; rw [O.irr] at this; cases this
abbrev Srt (lt : α → α → Bool) (l : List α) : Prop := l.Pairwise (lle lt)
theorem Srt.head_le (O : LOrd lt) {b : α} {l : List α} (h : Srt lt (b :: l)) : ∀ z ∈ b :: l, lle lt b z := fun z hz => by
  rcases List.mem_cons.mp hz with rfl | hz
  · exact O.rfl' _
  · exact (List.pairwise_cons.mp h).1 z hz

/-- out holds the first ia of L and the first ib of R -/
structure Mg (lt : α → α → Bool) (L R out : List α) (ia ib : Nat) : Prop where
  perm : out.Perm (L.take ia ++ R.take ib)
  srt : Srt lt out
  la : ∀ x ∈ out, ∀ y ∈ L.drop ia, lle lt x y
  lb : ∀ x ∈ out, ∀ y ∈ R.drop ib, lle lt x y
theorem Mg.sym {L R out : List α} {ia ib : Nat} (h : Mg lt L R out ia ib) : Mg lt R L out ib ia := ⟨h.perm.trans List.perm_append_comm, h.srt, h.lb, h.la⟩
theorem Mg.stepA {L R out : List α} {ia ib : Nat} (h : Mg lt L R out ia ib) (k : Nat) (hL : Srt lt L) (hc : ∀ y ∈ (L.drop ia).take k, ∀ z ∈ R.drop ib, lle lt y z) :
    Mg lt L R (out ++ (L.drop ia).take k) (ia + k) ib := by
  have hd : Srt lt (L.drop ia) := hL.sublist (List.drop_sublist _ _)
  have e : (L.drop ia).take k ++ L.drop (ia + k) = L.drop ia := by
    rw [← List.drop_drop]; exact List.take_append_drop k _
  have hd2 : Srt lt ((L.drop ia).take k ++ L.drop (ia + k)) := by rw [e]; exact hd
  obtain ⟨s1, s2, s3⟩ := List.pairwise_append.mp hd2
  refine ⟨?_, List.pairwise_append.mpr ⟨h.srt, s1, fun x hx y hy => h.la x hx y (by rw [← e]; exact List.mem_append_left _ hy)⟩, fun x hx y hy => ?_, fun x hx y hy => ?_⟩
  · rw [List.take_add]
    have p1 : (out ++ (L.drop ia).take k).Perm ((L.take ia ++ R.take ib) ++ (L.drop ia).take k) := h.perm.append_right _
    refine p1.trans ?_
    rw [List.append_assoc, List.append_assoc]
    exact List.Perm.append_left _ List.perm_append_comm
  · rcases List.mem_append.mp hx with hx | hx
    · exact h.la x hx y (by rw [← e]; exact List.mem_append_right _ hy)
    · exact s3 x hx y hy
  · rcases List.mem_append.mp hx with hx | hx
    · exact h.lb x hx y hy
    · exact hc x hx y hy
theorem Mg.fin {L R out X : List α} {ia ib : Nat} (h : Mg lt L R out ia ib) (hp : X.Perm (L.drop ia ++ R.drop ib)) (hs : Srt lt X) : Srt lt (out ++ X) ∧ (out ++ X).Perm (L ++ R) := by
  refine ⟨List.pairwise_append.mpr ⟨h.srt, hs, fun x hx y hy => ?_⟩, ?_⟩
  · rcases List.mem_append.mp (hp.mem_iff.mp hy) with q | q
    · exact h.la x hx y q
    · exact h.lb x hx y q
  · refine (h.perm.append hp).trans ?_
    have e1 := List.take_append_drop ia L
    have e2 := List.take_append_drop ib R
    have : ((L.take ia ++ R.take ib) ++ (L.drop ia ++ R.drop ib)).Perm ((L.take ia ++ L.drop ia) ++ (R.take ib ++ R.drop ib)) := by
      simp only [List.append_assoc]
      refine List.Perm.append_left _ ?_
      rw [← List.append_assoc, ← List.append_assoc]
      exact List.Perm.append_right _ List.perm_append_comm
    rw [e1, e2] at this
    exact this

/-- out, read backwards, holds what lies behind the first na of L and the first nb of R -/
structure Mh (lt : α → α → Bool) (L R out : List α) (na nb : Nat) : Prop where
  perm : out.Perm (L.drop na ++ R.drop nb)
  srt : Srt lt out.reverse
  la : ∀ x ∈ out, ∀ y ∈ L.take na, lle lt y x
  lb : ∀ x ∈ out, ∀ y ∈ R.take nb, lle lt y x
theorem Mh.sym {L R out : List α} {na nb : Nat} (h : Mh lt L R out na nb) : Mh lt R L out nb na := ⟨h.perm.trans List.perm_append_comm, h.srt, h.lb, h.la⟩
theorem Mh.stepA {L R out : List α} {na nb : Nat} (h : Mh lt L R out na nb) (t : Nat) (ht : t ≤ na) (hL : Srt lt L) (hc : ∀ y ∈ (L.take na).drop t, ∀ z ∈ R.take nb, lle lt z y) :
    Mh lt L R (out ++ ((L.take na).drop t).reverse) t nb := by
  have hd : Srt lt (L.take na) := hL.sublist (List.take_sublist _ _)
  have et : (L.take na).take t = L.take t := by rw [List.take_take, Nat.min_eq_left ht]
  have e : L.take t ++ (L.take na).drop t = L.take na := by rw [← et]; exact List.take_append_drop t _
  have hd2 : Srt lt (L.take t ++ (L.take na).drop t) := by rw [e]; exact hd
  obtain ⟨s1, s2, s3⟩ := List.pairwise_append.mp hd2
  refine ⟨?_, ?_, fun x hx y hy => ?_, fun x hx y hy => ?_⟩
  · have e3 : L.drop t = (L.take na).drop t ++ L.drop na := by
      have : L.drop t = (L.take na ++ L.drop na).drop t := by rw [List.take_append_drop]
      rw [this, List.drop_append]
      by_cases hn : t ≤ (L.take na).length
      · rw [show t - (L.take na).length = 0 by omega]; rfl
      · rw [List.length_take] at hn
        have hl : L.drop na = [] := List.drop_eq_nil_iff.mpr (by omega)
        rw [hl]; simp
    rw [e3]
    refine (h.perm.append (List.reverse_perm _)).trans ?_
    refine List.perm_append_comm.trans ?_
    rw [List.append_assoc]
  · rw [List.reverse_append, List.reverse_reverse]
    exact List.pairwise_append.mpr ⟨s2, h.srt, fun x hx y hy => h.la y (List.mem_reverse.mp hy) x (by rw [← e]; exact List.mem_append_right _ hx)⟩
  · rcases List.mem_append.mp hx with hx | hx
    · exact h.la x hx y (by rw [← e]; exact List.mem_append_left _ hy)
    · exact s3 y hy x (List.mem_reverse.mp hx)
  · rcases List.mem_append.mp hx with hx | hx
    · exact h.lb x hx y hy
    · exact hc x (List.mem_reverse.mp hx) y hy
theorem Mh.fin {L R out X : List α} {na nb : Nat} (h : Mh lt L R out na nb) (hp : X.Perm (L.take na ++ R.take nb)) (hs : Srt lt X) : Srt lt (X ++ out.reverse) ∧ (X ++ out.reverse).Perm (L ++ R) := by
  refine ⟨List.pairwise_append.mpr ⟨hs, h.srt, fun x hx y hy => ?_⟩, ?_⟩
  · rcases List.mem_append.mp (hp.mem_iff.mp hx) with q | q
    · exact h.la y (List.mem_reverse.mp hy) x q
    · exact h.lb y (List.mem_reverse.mp hy) x q
  · refine (hp.append ((List.reverse_perm _).trans h.perm)).trans ?_
    have e1 := List.take_append_drop na L
    have e2 := List.take_append_drop nb R
    have : ((L.take na ++ R.take nb) ++ (L.drop na ++ R.drop nb)).Perm ((L.take na ++ L.drop na) ++ (R.take nb ++ R.drop nb)) := by
      simp only [List.append_assoc]
      refine List.Perm.append_left _ ?_
      rw [← List.append_assoc, ← List.append_assoc]
      exact List.Perm.append_right _ List.perm_append_comm
    rw [e1, e2] at this
    exact this
end
end TT
namespace TT
open PySem PySem.W PyProof.Rows
noncomputable def gallop' : Bool → Keyed → Array Keyed → Nat → Nat → Nat → StateT SortSt Sem (Option Nat) := sortPriv% PySem.Builtin.gallop

def CmpS (prog : Program) (w : World) (A : Around) (κ : SortKind) (a₀ : List Keyed) (lt : Keyed → Keyed → Bool) (s : Shared) : Prop :=
  ∀ x y, x ∈ a₀ → y ∈ a₀ → wpAny (model prog w) A (keyLt' κ x.1 y.1) (fun c s' => s' = s ∧ c = lt x y) (fun _ _ => False) s
section
variable {prog : Program} {w : World} {A : Around} {E : Value → Shared → Prop} {s : Shared} {κ : SortKind} {a₀ : List Keyed} {lt : Keyed → Keyed → Bool}
theorem wpS_cmp {st : SortSt} {x y : Keyed} {Q : Option Bool → SortSt → Prop} (hC : CmpS prog w A κ a₀ lt s) (hk : kindOf st = κ) (hx : x ∈ a₀) (hy : y ∈ a₀) (h : Q (some (lt x y)) st) :
    wpS (model prog w) A E s (lt' x y) Q st := by
  rw [lt'_eq]
  refine wpS_bind (wpS_get ?_)
  rw [hk]
  refine wpS_bind (wpS_lift (wpAny_attempt (wpAny_mono (hC x y hx hy) (fun c s' hc => ⟨hc.1, ?_⟩) fun _ _ hF => hF.elim)))
  rw [hc.2]
  exact wpS_pure h
theorem wpS_elem {st : SortSt} {arr : Array Keyed} {i : Nat} {x : Keyed} {Q : Keyed → SortSt → Prop} (hx : arr[i]? = some x) (h : Q x st) : wpS (model prog w) A E s (elem' arr i) Q st := by
  rw [elem'_eq, hx]
  exact wpS_pure h
def bey (lt : Keyed → Keyed → Bool) (left : Bool) (key x : Keyed) : Bool := if left then lt x key else !lt key x
theorem wpS_beyond {st : SortSt} {left : Bool} {key x : Keyed} {arr : Array Keyed} {i : Nat} {Q : Option Bool → SortSt → Prop} (hC : CmpS prog w A κ a₀ lt s) (hk : kindOf st = κ)
    (hkey : key ∈ a₀) (hx : arr[i]? = some x) (hx0 : x ∈ a₀) (h : Q (some (bey lt left key x)) st) :
    wpS (model prog w) A E s (elem' arr i >>= fun x => if left = true then lt' x key else lt' key x >>= fun l => pure (Option.map (fun x => !x) l)) Q st := by
  refine wpS_bind (wpS_elem hx ?_)
  cases left with
  | true => exact wpS_cmp hC hk hx0 hkey h
  | false => exact wpS_bind (wpS_cmp hC hk hkey hx0 (wpS_pure h))
theorem wpS_halves {st : SortSt} {n lo hi : Nat} {p : Nat → Bool} {g : Nat → Option (Option Nat) × Nat × Nat → StateT SortSt Sem (ForInStep (Option (Option Nat) × Nat × Nat))} {Q : Option (Option Nat) × Nat × Nat → SortSt → Prop}
    (g1 : ∀ x l r (Q' : ForInStep (Option (Option Nat) × Nat × Nat) → SortSt → Prop), l ≥ r → Q' (.done (none, l, r)) st → wpS (model prog w) A E s (g x (none, l, r)) Q' st)
    (g2 : ∀ x l r (Q' : ForInStep (Option (Option Nat) × Nat × Nat) → SortSt → Prop), l < r → r ≤ n → (p (l + (r - l) / 2) = true → Q' (.yield (none, l + (r - l) / 2 + 1, r)) st) → (p (l + (r - l) / 2) = false → Q' (.yield (none, l, l + (r - l) / 2)) st) → wpS (model prog w) A E s (g x (none, l, r)) Q' st)
    (hm : ∀ i j, i ≤ j → j < n → p j = true → p i = true) (h1 : lo ≤ hi) (h2 : hi ≤ n) (ha : ∀ i, i < lo → p i = true) (hb : ∀ i, hi ≤ i → i < n → p i = false)
    (h : ∀ k, k ≤ n → (∀ i, i < k → p i = true) → (∀ i, k ≤ i → i < n → p i = false) → ∀ l, Q (none, l, k) st) : wpS (model prog w) A E s (forIn [0:n] (none, lo, hi) g) Q st := by
  refine wpS_forRange (I := fun x c st' => st' = st ∧ ∃ l r, c = (none, l, r) ∧ l ≤ r ∧ r ≤ n ∧ r - l ≤ n - x ∧ (∀ i, i < l → p i = true) ∧ (∀ i, r ≤ i → i < n → p i = false)) ?_ ?_ ⟨rfl, lo, hi, rfl, h1, h2, by omega, ha, hb⟩
  · rintro x c st' _ hx ⟨rfl, l, r, rfl, a1, a2, a3, a4, a5⟩
    by_cases hge : l ≥ r
    · refine g1 x l r _ hge ?_
      exact h r a2 (fun i hi => a4 i (by omega)) a5 l
    · refine g2 x l r _ (by omega) a2 (fun e => ?_) fun e => ?_
      · exact ⟨rfl, _, _, rfl, by omega, a2, by omega, fun i hi => hm i _ (by omega) (by omega) e, a5⟩
      · refine ⟨rfl, _, _, rfl, by omega, by omega, by omega, a4, fun i h1 h2 => ?_⟩
        cases q : p i with
        | false => rfl
        | true => rw [hm _ _ h1 h2 q] at e; cases e
  · rintro c st' ⟨rfl, l, r, rfl, a1, a2, a3, a4, a5⟩
    exact h r a2 (fun i hi => a4 i (by omega)) a5 l
theorem wpS_gallop {st : SortSt} {left : Bool} {key : Keyed} {arr : Array Keyed} {base n hint : Nat} {f : Nat → Keyed} {Q : Option Nat → SortSt → Prop} (hC : CmpS prog w A κ a₀ lt s) (hk : kindOf st = κ)
    (hkey : key ∈ a₀) (hf : ∀ i, i < n → arr[base + i]? = some (f i) ∧ f i ∈ a₀) (hh : hint < n) (hm : ∀ i j, i ≤ j → j < n → bey lt left key (f j) = true → bey lt left key (f i) = true)
    (h : ∀ k, k ≤ n → (∀ i, i < k → bey lt left key (f i) = true) → (∀ i, k ≤ i → i < n → bey lt left key (f i) = false) → Q (some k) st) :
    wpS (model prog w) A E s (gallop' left key arr base n hint) Q st := by
  have ask : ∀ i, i < n → ∀ {Q' : Option Bool → SortSt → Prop}, Q' (some (bey lt left key (f i))) st → wpS (model prog w) A E s (elem' arr (base + i) >>= fun x => if left = true then lt' x key else lt' key x >>= fun l => pure (Option.map (fun x => !x) l)) Q' st :=
    fun i hi Q' hq => wpS_beyond hC hk hkey (hf i hi).1 (hf i hi).2 hq
  generalize bey lt left key = b at *
  refine wpS_bind (ask hint hh ?_)
  have hmf : ∀ i j, i ≤ j → j < n → b (f i) = false → b (f j) = false := fun i j h1 h2 e => by
    cases q : b (f j) with
    | false => rfl
    | true => rw [hm i j h1 h2 q] at e; cases e
  cases e0 : b (f hint) with
  | true =>
    simp only [if_true]
    refine wpS_bind (wpS_mono (wpS_forRange (I := fun x c st' => st' = st ∧ ∃ l o, c = (none, l, o) ∧ l < o ∧ x + 1 ≤ o ∧ hint + l < n ∧ b (f (hint + l)) = true)
      (Q := fun c st' => st' = st ∧ ∃ l o, c = (none, l, o) ∧ l < o ∧ hint + l < n ∧ b (f (hint + l)) = true ∧ (n ≤ hint + o ∨ hint + o < n ∧ b (f (hint + o)) = false)) ?_ ?_ ⟨rfl, 0, 1, rfl, by omega, by omega, hh, e0⟩) ?_)
    · rintro x c st' _ hx ⟨rfl, l, o, rfl, a1, a2, a3, a4⟩
      dsimp only
      by_cases hge : o ≥ n - hint
      · rw [if_pos hge]
        exact wpS_pure ⟨rfl, l, o, rfl, a1, a3, a4, .inl (by omega)⟩
      · rw [if_neg hge]
        refine wpS_bind (ask (hint + o) (by omega) ?_)
        cases e : b (f (hint + o)) with
        | true => exact wpS_pure ⟨rfl, o, 2 * o + 1, rfl, by omega, by omega, by omega, e⟩
        | false => exact wpS_pure ⟨rfl, l, o, rfl, a1, a3, a4, .inr ⟨by omega, e⟩⟩
    · rintro c st' ⟨rfl, l, o, rfl, a1, a2, a3, a4⟩
      exact ⟨rfl, l, o, rfl, a1, a3, a4, .inl (by omega)⟩
    · rintro c st' ⟨rfl, l, o, rfl, a1, a3, a4, a5⟩
      dsimp only
      refine wpS_bind (wpS_halves (p := fun i => b (f i)) (fun x l r Q' hge hq => ?_) (fun x l r Q' hlt hr q1 q2 => ?_) hm (by omega) (by omega) (fun i hi => hm i (hint + l) (by omega) a3 a4) (fun i h1 h2 => ?_) fun k k1 k2 k3 l => wpS_pure (h k k1 k2 k3))
      · dsimp only; rw [if_pos hge]; exact wpS_pure hq
      · dsimp only; rw [if_neg (by omega)]
        refine wpS_bind (ask _ (by omega) ?_)
        cases e : b (f (l + (r - l) / 2)) with
        | true => exact wpS_pure (q1 e)
        | false => exact wpS_pure (q2 e)
      · rcases a5 with a5 | ⟨a5, a6⟩
        · omega
        · exact hmf (hint + o) i (by omega) h2 a6
  | false =>
    simp only [Bool.false_eq_true, if_false]
    refine wpS_bind (wpS_mono (wpS_forRange (I := fun x c st' => st' = st ∧ ∃ l o, c = (none, l, o) ∧ l < o ∧ x + 1 ≤ o ∧ l ≤ hint ∧ b (f (hint - l)) = false)
      (Q := fun c st' => st' = st ∧ ∃ l o, c = (none, l, o) ∧ l < o ∧ l ≤ hint ∧ b (f (hint - l)) = false ∧ (hint + 1 ≤ o ∨ o ≤ hint ∧ b (f (hint - o)) = true)) ?_ ?_ ⟨rfl, 0, 1, rfl, by omega, by omega, by omega, e0⟩) ?_)
    · rintro x c st' _ hx ⟨rfl, l, o, rfl, a1, a2, a3, a4⟩
      dsimp only
      by_cases hge : o ≥ hint + 1
      · rw [if_pos hge]
        exact wpS_pure ⟨rfl, l, o, rfl, a1, a3, a4, .inl (by omega)⟩
      · rw [if_neg hge]
        refine wpS_bind (ask (hint - o) (by omega) ?_)
        cases e : b (f (hint - o)) with
        | true => exact wpS_pure ⟨rfl, l, o, rfl, a1, a3, a4, .inr ⟨by omega, e⟩⟩
        | false => exact wpS_pure ⟨rfl, o, 2 * o + 1, rfl, by omega, by omega, by omega, e⟩
    · rintro c st' ⟨rfl, l, o, rfl, a1, a2, a3, a4⟩
      exact ⟨rfl, l, o, rfl, a1, a3, a4, .inl (by omega)⟩
    · rintro c st' ⟨rfl, l, o, rfl, a1, a3, a4, a5⟩
      dsimp only
      refine wpS_bind (wpS_halves (p := fun i => b (f i)) (fun x l r Q' hge hq => ?_) (fun x l r Q' hlt hr q1 q2 => ?_) hm (by omega) (by omega) (fun i hi => ?_) (fun i h1 h2 => hmf (hint - l) i (by omega) h2 a4) fun k k1 k2 k3 l => wpS_pure (h k k1 k2 k3))
      · dsimp only; rw [if_pos hge]; exact wpS_pure hq
      · dsimp only; rw [if_neg (by omega)]
        refine wpS_bind (ask _ (by omega) ?_)
        cases e : b (f (l + (r - l) / 2)) with
        | true => exact wpS_pure (q1 e)
        | false => exact wpS_pure (q2 e)
      · rcases a5 with a5 | ⟨a5, a6⟩
        · omega
        · exact hm i (hint - o) (by omega) (by omega) a6
end
end TT
namespace TT
open PySem PySem.W PyProof.Rows
noncomputable def mergeLo' : Array Keyed → Array Keyed → StateT SortSt Sem (Array Keyed) := sortPriv% PySem.Builtin.mergeLo
section
variable {prog : Program} {w : World} {A : Around} {E : Value → Shared → Prop} {s : Shared} {κ : SortKind} {a₀ : List Keyed} {lt : Keyed → Keyed → Bool}
/-- only the gallop has changed -/
structure Sm (st st' : SortSt) : Prop where
  arr : arrOf st' = arrOf st
  kind : kindOf st' = kindOf st
  fail : failedOf st' = failedOf st
  pend : pendingOf st' = pendingOf st
theorem Sm.refl (st : SortSt) : Sm st st := ⟨rfl, rfl, rfl, rfl⟩
theorem arr_at {a : Array Keyed} {i : Nat} (h : i < a.size) : ∃ x, a[i]? = some x ∧ x ∈ a.toList ∧ a.toList.drop i = x :: a.toList.drop (i + 1) := by
  refine ⟨a[i], by simp [h], by simp, ?_⟩
  rw [List.drop_eq_getElem_cons (by simpa using h)]
  simp
theorem drop_le (O : LOrd lt) {a : Array Keyed} {i : Nat} {x y : Keyed} (sa : Srt lt a.toList) (hx : a[i]? = some x) (h : lle lt y x) : ∀ z ∈ a.toList.drop i, lle lt y z := by
  have hi : i < a.size := by
    rcases Nat.lt_or_ge i a.size with q | q
    · exact q
    · rw [Array.getElem?_eq_none q] at hx; cases hx
  obtain ⟨x', ex, _, ed⟩ := arr_at hi
  rw [hx] at ex
  cases ex
  intro z hz
  rw [ed] at hz
  have hs : Srt lt (x :: a.toList.drop (i + 1)) := by rw [← ed]; exact sa.sublist (List.drop_sublist _ _)
  exact O.le_tr h (hs.head_le O z hz)
abbrev MgA (lt : Keyed → Keyed → Bool) (a b out : Array Keyed) (ia ib : Nat) : Prop := Mg lt a.toList b.toList out.toList ia ib
theorem drop_one {a : Array Keyed} {i : Nat} {x : Keyed} (hx : a[i]? = some x) : (a.toList.drop i).take 1 = [x] := by
  have hi : i < a.size := by
    rcases Nat.lt_or_ge i a.size with q | q
    · exact q
    · rw [Array.getElem?_eq_none q] at hx; cases hx
  obtain ⟨x', ex, _, ed⟩ := arr_at hi
  rw [hx] at ex
  cases ex
  rw [ed]; rfl
theorem MgA.pushA (O : LOrd lt) {a b out : Array Keyed} {ia ib : Nat} {x : Keyed} (h : MgA lt a b out ia ib) (sa : Srt lt a.toList) (hx : a[ia]? = some x) (hz : ∀ z ∈ b.toList.drop ib, lle lt x z) : MgA lt a b (out.push x) (ia + 1) ib := by
  have := h.stepA 1 sa (by rw [drop_one hx]; intro y hy z; rw [List.mem_singleton.mp hy]; exact hz z)
  rw [drop_one hx] at this
  unfold MgA
  rw [Array.toList_push]
  exact this
theorem MgA.pushB (O : LOrd lt) {a b out : Array Keyed} {ia ib : Nat} {y : Keyed} (h : MgA lt a b out ia ib) (sb : Srt lt b.toList) (hy : b[ib]? = some y) (hz : ∀ z ∈ a.toList.drop ia, lle lt y z) : MgA lt a b (out.push y) ia (ib + 1) :=
  (MgA.pushA (a := b) (b := a) O h.sym sb hy hz).sym
theorem mem_chunk {a : Array Keyed} {i k : Nat} {x : Keyed} (h : x ∈ (a.toList.drop i).take k) : ∃ j, j < k ∧ a[i + j]? = some x := by
  obtain ⟨j, hj, e⟩ := List.mem_iff_getElem.mp h
  rw [List.length_take, List.length_drop] at hj
  refine ⟨j, by omega, ?_⟩
  rw [← e, List.getElem_take, List.getElem_drop]
  have : i + j < a.size := by rw [Array.length_toList] at hj; omega
  simp [this]
theorem MgA.appA (O : LOrd lt) {a b out : Array Keyed} {ia ib k : Nat} (h : MgA lt a b out ia ib) (sa : Srt lt a.toList) (hz : ∀ j, j < k → ∀ x, a[ia + j]? = some x → ∀ z ∈ b.toList.drop ib, lle lt x z) :
    MgA lt a b (out ++ a.extract ia (ia + k)) (ia + k) ib := by
  have := h.stepA k sa (fun y hy => by obtain ⟨j, hj, e⟩ := mem_chunk hy; exact hz j hj y e)
  unfold MgA
  rw [Array.toList_append, Array.toList_extract, List.extract_eq_take_drop, show ia + k - ia = k by omega]
  exact this
theorem MgA.appB (O : LOrd lt) {a b out : Array Keyed} {ia ib k : Nat} (h : MgA lt a b out ia ib) (sb : Srt lt b.toList) (hz : ∀ j, j < k → ∀ x, b[ib + j]? = some x → ∀ z ∈ a.toList.drop ia, lle lt x z) :
    MgA lt a b (out ++ b.extract ib (ib + k)) ia (ib + k) := (MgA.appA (a := b) (b := a) O h.sym sb hz).sym
def ResA (lt : Keyed → Keyed → Bool) (a b m : Array Keyed) : Prop := Srt lt m.toList ∧ m.toList.Perm (a.toList ++ b.toList)
theorem ext_end (a : Array Keyed) (i : Nat) : (a.extract i a.size).toList = a.toList.drop i := by
  rw [Array.toList_extract, List.extract_eq_take_drop]
  exact List.take_of_length_le (by simp)
theorem MgA.doneB {a b out : Array Keyed} {ia ib : Nat} (h : MgA lt a b out ia ib) (sa : Srt lt a.toList) (e : b.toList.drop ib = []) : ResA lt a b (out ++ a.extract ia a.size ++ b.extract ib b.size) := by
  have := h.fin (X := a.toList.drop ia ++ b.toList.drop ib) (List.Perm.refl _) (by rw [e, List.append_nil]; exact sa.sublist (List.drop_sublist _ _))
  unfold ResA
  rw [Array.toList_append, Array.toList_append, ext_end, ext_end, List.append_assoc]
  exact this
theorem MgA.doneA {a b out : Array Keyed} {ia ib : Nat} (h : MgA lt a b out ia ib) (sb : Srt lt b.toList) (e : a.toList.drop ia = []) : ResA lt a b (out ++ a.extract ia a.size ++ b.extract ib b.size) := by
  have := h.fin (X := a.toList.drop ia ++ b.toList.drop ib) (List.Perm.refl _) (by rw [e, List.nil_append]; exact sb.sublist (List.drop_sublist _ _))
  unfold ResA
  rw [Array.toList_append, Array.toList_append, ext_end, ext_end, List.append_assoc]
  exact this
theorem MgA.lastA {a b out : Array Keyed} {ia ib : Nat} (h : MgA lt a b out ia ib) (sa : Srt lt a.toList) (sb : Srt lt b.toList) (hl : ∀ x ∈ b.toList, ∀ z ∈ a.toList.drop ia, lle lt x z) : ResA lt a b (out ++ b.extract ib b.size ++ a.extract ia a.size) := by
  have := h.fin (X := b.toList.drop ib ++ a.toList.drop ia) List.perm_append_comm (List.pairwise_append.mpr ⟨sb.sublist (List.drop_sublist _ _), sa.sublist (List.drop_sublist _ _), fun x hx z hz => hl x (List.mem_of_mem_drop hx) z hz⟩)
  unfold ResA
  rw [Array.toList_append, Array.toList_append, ext_end, ext_end, List.append_assoc]
  exact this
noncomputable def setMinGallop' : Nat → StateT SortSt Sem Unit := sortPriv% PySem.Builtin.setMinGallop
theorem wpS_setG {st0 st : SortSt} {g : Nat} {Q : Unit → SortSt → Prop} (h0 : Sm st0 st) (h : ∀ st', Sm st0 st' → Q () st') : wpS (model prog w) A E s (setMinGallop' g) Q st :=
  wpS_modify (h _ ⟨h0.arr, h0.kind, h0.fail, h0.pend⟩)
theorem srt_at (O : LOrd lt) {a : Array Keyed} {p q : Nat} {x y : Keyed} (sa : Srt lt a.toList) (h : p ≤ q) (hx : a[p]? = some x) (hy : a[q]? = some y) : lle lt x y := by
  refine drop_le O sa hx (O.rfl' _) y ?_
  have hy' : a.toList[q]? = some y := by simpa using hy
  have : (a.toList.drop p)[q - p]? = some y := by rw [List.getElem?_drop, show p + (q - p) = q by omega]; exact hy'
  exact List.mem_of_getElem? this
theorem getD_at {a : Array Keyed} {i : Nat} (d : Keyed) (h : i < a.size) : a[i]? = some (a.getD i d) := by simp [Array.getD, h]
theorem gal_f {a : Array Keyed} (hA : ∀ x ∈ a.toList, x ∈ a₀) {i n : Nat} (d : Keyed) (hn : i + n ≤ a.size) : ∀ t, t < n → a[i + t]? = some (a.getD (i + t) d) ∧ a.getD (i + t) d ∈ a₀ := fun t ht => by
  have e := getD_at (a := a) (i := i + t) d (by omega)
  exact ⟨e, hA _ (Array.mem_toList_iff.mpr (Array.mem_of_getElem? e))⟩
theorem gal_mono (O : LOrd lt) {a : Array Keyed} (sa : Srt lt a.toList) {left : Bool} {key d : Keyed} {i n : Nat} (hn : i + n ≤ a.size) :
    ∀ t u, t ≤ u → u < n → bey lt left key (a.getD (i + u) d) = true → bey lt left key (a.getD (i + t) d) = true := fun t u h1 h2 e => by
  have le := srt_at O sa (p := i + t) (q := i + u) (by omega) (getD_at d (by omega)) (getD_at d (by omega))
  cases left with
  | true =>
    rcases O.neg _ (a.getD (i + t) d) _ e with q | q
    · rw [le] at q; cases q
    · exact q
  | false =>
    have e' : lt key (a.getD (i + u) d) = false := by simpa [bey] using e
    have : lt key (a.getD (i + t) d) = false := O.le_tr le e'
    show (!lt key (a.getD (i + t) d)) = true
    rw [this]
    rfl
theorem ite_wpS {α : Type} {c : Prop} [Decidable c] {m1 m2 : StateT SortSt Sem α} {Q : α → SortSt → Prop} {st : SortSt} (h1 : wpS (model prog w) A E s m1 Q st) (h2 : wpS (model prog w) A E s m2 Q st) : wpS (model prog w) A E s (if c then m1 else m2) Q st := by
  by_cases h : c
  · rw [if_pos h]; exact h1
  · rw [if_neg h]; exact h2
/-- what holds within a merge that is not at its end -/
structure InL (lt : Keyed → Keyed → Bool) (a b out : Array Keyed) (ia ib : Nat) : Prop where
  mg : MgA lt a b out ia ib
  la : ia + 1 < a.size
  lb : ib < b.size
theorem wpS_mergeLo {st : SortSt} {a b : Array Keyed} {Q : Array Keyed → SortSt → Prop} (O : LOrd lt) (hC : CmpS prog w A κ a₀ lt s) (hk : kindOf st = κ)
    (hA : ∀ x ∈ a.toList, x ∈ a₀) (hB : ∀ x ∈ b.toList, x ∈ a₀) (sa : Srt lt a.toList) (sb : Srt lt b.toList) (h1 : 1 ≤ a.size) (h2 : 1 ≤ b.size)
    (hf : ∀ x, b[0]? = some x → ∀ z ∈ a.toList, lle lt x z) (hl : ∀ x ∈ b.toList, ∀ z, a[a.size - 1]? = some z → lle lt x z)
    (h : ∀ m st', Sm st st' → Srt lt m.toList → m.toList.Perm (a.toList ++ b.toList) → Q m st') : wpS (model prog w) A E s (mergeLo' a b) Q st := by
  refine wpS_bind (wpS_lift (wpAny_rule ⟨rfl, ?_⟩))
  obtain ⟨b0, eb0⟩ : ∃ x, b[0]? = some x := ⟨b[0], by simp [h2]⟩
  refine wpS_bind (wpS_elem eb0 ?_)
  have mg1 : MgA lt a b #[b0] 0 1 := by
    have m0 : MgA lt a b #[] 0 0 := ⟨List.Perm.refl _, List.Pairwise.nil, fun x hx => (by cases hx), fun x hx => (by cases hx)⟩
    exact m0.pushB O sb eb0 (fun z hz => hf b0 eb0 z hz)
  have last : ∀ {out : Array Keyed} {ia ib : Nat}, MgA lt a b out ia ib → ia + 1 = a.size → ResA lt a b (out ++ b.extract ib b.size ++ a.extract ia a.size) := fun {out ia ib} m e => by
    refine m.lastA sa sb fun x hx z hz => ?_
    obtain ⟨y, ey, _, ed⟩ := arr_at (a := a) (i := ia) (by omega)
    rw [ed, show a.toList.drop (ia + 1) = [] from List.drop_eq_nil_iff.mpr (by simp; omega)] at hz
    rw [List.mem_singleton.mp hz]
    exact hl x hx y (by rw [show a.size - 1 = ia by omega]; exact ey)
  have doneB : ∀ {out : Array Keyed} {ia ib : Nat}, MgA lt a b out ia ib → ib = b.size → ResA lt a b (out ++ a.extract ia a.size ++ b.extract ib b.size) := fun m e => m.doneB sa (List.drop_eq_nil_iff.mpr (by simp; omega))
  have doneA : ∀ {out : Array Keyed} {ia ib : Nat}, MgA lt a b out ia ib → ia = a.size → ResA lt a b (out ++ a.extract ia a.size ++ b.extract ib b.size) := fun m e => m.doneA sb (List.drop_eq_nil_iff.mpr (by simp; omega))
  dsimp only
  by_cases e1 : 1 = b.size
  · rw [if_pos (by simpa using e1)]
    have r := doneB mg1 e1
    exact wpS_pure (h _ _ (Sm.refl _) r.1 r.2)
  rw [if_neg (by simpa using e1)]
  by_cases e2 : 0 + 1 = a.size
  · rw [if_pos (by simpa using e2)]
    have r := last mg1 e2
    exact wpS_pure (h _ _ (Sm.refl _) r.1 r.2)
  rw [if_neg (by simpa using e2)]
  refine wpS_bind (wpS_get ?_)
  refine wpS_bind (wpS_mono (wpS_forRange (I := fun x c st' => Sm st st' ∧ ∃ out ia ib mg, c = (none, out, ia, ib, mg) ∧ InL lt a b out ia ib ∧ x + 1 ≤ ia + ib)
    (Q := fun c st' => Sm st st' ∧ ∃ m r, c = (some m, r) ∧ ResA lt a b m) ?_ ?_ ⟨Sm.refl _, _, _, _, _, rfl, ⟨mg1, by omega, by omega⟩, by omega⟩) ?_)
  · rintro x c st1 _ hx ⟨sm1, out, ia, ib, mg, rfl, i1, hs1⟩
    dsimp only
    refine wpS_bind (wpS_mono (wpS_forRange (I := fun x c st' => st' = st1 ∧ ∃ out' ia' ib' u v, c = (none, out', ia', ib', u, v) ∧ InL lt a b out' ia' ib' ∧ ia + ib + x ≤ ia' + ib')
      (Q := fun c st' => st' = st1 ∧ ((∃ m r, c = (some m, r) ∧ ResA lt a b m) ∨ ∃ out' ia' ib' u v, c = (none, out', ia', ib', u, v) ∧ InL lt a b out' ia' ib' ∧ ia + ib + 1 ≤ ia' + ib')) ?_ ?_ ⟨rfl, _, _, _, _, _, rfl, i1, by omega⟩) ?_)
    · rintro x2 c st2 _ hx2 ⟨rfl, o, i, j, u, v, rfl, i2, hs2⟩
      obtain ⟨y, ey, my, _⟩ := arr_at i2.lb
      obtain ⟨z, ez, mz, _⟩ := arr_at (a := a) (i := i) (by have := i2.la; omega)
      dsimp only
      refine wpS_bind (wpS_elem ey (wpS_bind (wpS_elem ez (wpS_bind (wpS_cmp hC (sm1.kind.trans hk) (hB y my) (hA z mz) ?_)))))
      cases e : lt y z with
      | true =>
        have m2 := i2.mg.pushB O sb ey (drop_le O sa ez (O.le_of e))
        simp only [if_true]
        refine wpS_bind (wpS_elem ey ?_)
        by_cases f1 : j + 1 = b.size
        · rw [if_pos (by simpa using f1)]
          exact wpS_pure ⟨rfl, .inl ⟨_, _, rfl, doneB m2 f1⟩⟩
        rw [if_neg (by simpa using f1)]
        have i3 : InL lt a b (o.push y) i (j + 1) := ⟨m2, i2.la, by have := i2.lb; omega⟩
        by_cases f2 : v + 1 ≥ mg
        · rw [if_pos f2]
          exact wpS_pure ⟨rfl, .inr ⟨_, _, _, _, _, rfl, i3, by omega⟩⟩
        · rw [if_neg f2]
          exact wpS_pure ⟨rfl, _, _, _, _, _, rfl, i3, by omega⟩
      | false =>
        have m2 := i2.mg.pushA O sa ez (drop_le O sb ey e)
        simp only [Bool.false_eq_true, if_false]
        refine wpS_bind (wpS_elem ez ?_)
        by_cases f1 : i + 1 + 1 = a.size
        · rw [if_pos (by simpa using f1)]
          exact wpS_pure ⟨rfl, .inl ⟨_, _, rfl, last m2 f1⟩⟩
        rw [if_neg (by simpa using f1)]
        have i3 : InL lt a b (o.push z) (i + 1) j := ⟨m2, by have := i2.la; omega, i2.lb⟩
        by_cases f2 : u + 1 ≥ mg
        · rw [if_pos f2]
          exact wpS_pure ⟨rfl, .inr ⟨_, _, _, _, _, rfl, i3, by omega⟩⟩
        · rw [if_neg f2]
          exact wpS_pure ⟨rfl, _, _, _, _, _, rfl, i3, by omega⟩
    · rintro c st2 ⟨rfl, o, i, j, u, v, rfl, i2, hs2⟩
      have := i2.la
      have := i2.lb
      omega
    · rintro c st2 ⟨rfl, ⟨m, r, rfl, hr⟩ | ⟨o2, p, q, u, v, rfl, i2, hs2⟩⟩
      · exact wpS_pure ⟨sm1, _, _, rfl, hr⟩
      · dsimp only
        refine wpS_bind (wpS_lift (wpAny_rule ⟨rfl, ?_⟩))
        refine wpS_bind (wpS_mono (wpS_forRange (I := fun x c st' => Sm st st' ∧ ∃ out' ia' ib' g u v, c = (none, out', ia', ib', g, u, v) ∧ InL lt a b out' ia' ib' ∧ p + q + x ≤ ia' + ib')
          (Q := fun c st' => Sm st st' ∧ ((∃ m r, c = (some m, r) ∧ ResA lt a b m) ∨ ∃ out' ia' ib' g u v, c = (none, out', ia', ib', g, u, v) ∧ InL lt a b out' ia' ib' ∧ p + q ≤ ia' + ib')) ?_ ?_ ⟨sm1, _, _, _, _, _, _, rfl, i2, by omega⟩) ?_)
        · rintro x3 c st3 _ hx3 ⟨sm3, o3, i3, j3, g, u3, v3, rfl, n3, hs3⟩
          dsimp only
          have hi3 := n3.la
          have hj3 := n3.lb
          have mg3 := n3.mg
          obtain ⟨y, ey, my, _⟩ := arr_at hj3
          by_cases hg : g > 1
          case' pos => rw [if_pos hg]
          case' neg => rw [if_neg hg]
          all_goals
            refine wpS_bind (wpS_setG sm3 fun st4 sm4 => ?_)
            refine wpS_bind (wpS_elem ey ?_)
            refine wpS_bind (wpS_gallop (f := fun t => a.getD (i3 + t) y) hC (sm4.kind.trans hk) (hB y my) (gal_f hA y (by omega)) (by omega) (gal_mono O sa (by omega)) fun k k1 k2 k3 => ?_)
            dsimp only
            have m4 : MgA lt a b (o3 ++ a.extract i3 (i3 + k)) (i3 + k) j3 := mg3.appA O sa fun t ht x ex => drop_le O sb ey (by
              have q := k2 t ht
              have e := getD_at (a := a) (i := i3 + t) y (by omega)
              rw [ex] at e
              cases e
              simpa [bey] using q)
            have yz : ∀ z, a[i3 + k]? = some z → lt y z = true := fun z ez => by
              have hlt : i3 + k < a.size := by
                rcases Nat.lt_or_ge (i3 + k) a.size with q | q
                · exact q
                · rw [Array.getElem?_eq_none q] at ez; cases ez
              have q := k3 k (Nat.le_refl _) (by omega)
              have e := getD_at (a := a) (i := i3 + k) y hlt
              rw [ez] at e
              cases e
              simpa [bey] using q
            by_cases hk0 : k > 0
            · rw [if_pos hk0]
              by_cases f1 : i3 + k + 1 = a.size
              · rw [if_pos (by simpa using f1)]
                exact wpS_pure ⟨sm4, .inl ⟨_, _, rfl, last m4 f1⟩⟩
              rw [if_neg (by simpa using f1)]
              by_cases f2 : i3 + k = a.size
              · rw [if_pos (by simpa using f2)]
                exact wpS_pure ⟨sm4, .inl ⟨_, _, rfl, doneA m4 f2⟩⟩
              rw [if_neg (by simpa using f2)]
              have la4 : i3 + k + 1 < a.size := by omega
              have hs4 : p + q + x3 ≤ i3 + k + j3 := by omega
              clear k2 k3
              generalize o3 ++ a.extract i3 (i3 + k) = o4 at *
              generalize i3 + k = i4 at *
              obtain ⟨z, ez, mz, _⟩ := arr_at (a := a) (i := i4) (by omega)
              have yz := yz z ez
              refine wpS_bind (wpS_elem ey ?_)
              have m5 := m4.pushB O sb ey (drop_le O sa ez (O.le_of yz))
              by_cases f3 : j3 + 1 = b.size
              · rw [if_pos (by simpa using f3)]
                exact wpS_pure ⟨sm4, .inl ⟨_, _, rfl, doneB m5 f3⟩⟩
              rw [if_neg (by simpa using f3)]
              refine wpS_bind (wpS_elem ez ?_)
              refine wpS_bind (wpS_gallop (f := fun t => b.getD (j3 + 1 + t) z) hC (sm4.kind.trans hk) (hA z mz) (gal_f hB z (by omega)) (by omega) (gal_mono O sb (by omega)) fun r r1 r2 r3 => ?_)
              dsimp only
              have m6 : MgA lt a b (o4.push y ++ b.extract (j3 + 1) (j3 + 1 + r)) i4 (j3 + 1 + r) := m5.appB O sb fun t ht x ex => drop_le O sa ez (by
                have q := r2 t ht
                have e := getD_at (a := b) (i := j3 + 1 + t) z (by omega)
                rw [ex] at e
                cases e
                exact O.le_of q)
              have zw : ∀ x, b[j3 + 1 + r]? = some x → lle lt z x := fun x ex => by
                have hlt : j3 + 1 + r < b.size := by
                  rcases Nat.lt_or_ge (j3 + 1 + r) b.size with q | q
                  · exact q
                  · rw [Array.getElem?_eq_none q] at ex; cases ex
                have q := r3 r (Nat.le_refl _) (by omega)
                have e := getD_at (a := b) (i := j3 + 1 + r) z hlt
                rw [ex] at e
                cases e
                exact q
              by_cases hr0 : r > 0
              · rw [if_pos hr0]
                by_cases f4 : j3 + 1 + r = b.size
                · rw [if_pos (by simpa using f4)]
                  exact wpS_pure ⟨sm4, .inl ⟨_, _, rfl, doneB m6 f4⟩⟩
                rw [if_neg (by simpa using f4)]
                refine wpS_bind (wpS_elem ez ?_)
                obtain ⟨x', ex', _, _⟩ := arr_at (a := b) (i := j3 + 1 + r) (by omega)
                have m7 := m6.pushA O sa ez (drop_le O sb ex' (zw x' ex'))
                by_cases f5 : i4 + 1 + 1 = a.size
                · rw [if_pos (by simpa using f5)]
                  exact wpS_pure ⟨sm4, .inl ⟨_, _, rfl, last m7 f5⟩⟩
                rw [if_neg (by simpa using f5)]
                refine ite_wpS ?_ ?_
                · exact wpS_pure ⟨sm4, .inr ⟨_, _, _, _, _, _, rfl, ⟨m7, by omega, by omega⟩, by omega⟩⟩
                · exact wpS_pure ⟨sm4, _, _, _, _, _, _, rfl, ⟨m7, by omega, by omega⟩, by omega⟩
              · rw [if_neg hr0]
                refine wpS_bind (wpS_elem ez ?_)
                obtain ⟨x', ex', _, _⟩ := arr_at (a := b) (i := j3 + 1) (by omega)
                have m7 := m5.pushA O sa ez (drop_le O sb ex' (zw x' (by rw [show r = 0 by omega]; exact ex')))
                by_cases f5 : i4 + 1 + 1 = a.size
                · rw [if_pos (by simpa using f5)]
                  exact wpS_pure ⟨sm4, .inl ⟨_, _, rfl, last m7 f5⟩⟩
                rw [if_neg (by simpa using f5)]
                refine ite_wpS ?_ ?_
                · exact wpS_pure ⟨sm4, .inr ⟨_, _, _, _, _, _, rfl, ⟨m7, by omega, by omega⟩, by omega⟩⟩
                · exact wpS_pure ⟨sm4, _, _, _, _, _, _, rfl, ⟨m7, by omega, by omega⟩, by omega⟩
            · rw [if_neg hk0]
              have k0 : k = 0 := by omega
              have yz : ∀ z, a[i3]? = some z → lt y z = true := fun z ez => yz z (by rw [k0]; exact ez)
              clear k2 k3 m4
              have m4 := mg3
              have la4 := hi3
              have hs4 := hs3
              generalize o3 = o4 at *
              generalize i3 = i4 at *
              obtain ⟨z, ez, mz, _⟩ := arr_at (a := a) (i := i4) (by omega)
              have yz := yz z ez
              refine wpS_bind (wpS_elem ey ?_)
              have m5 := m4.pushB O sb ey (drop_le O sa ez (O.le_of yz))
              by_cases f3 : j3 + 1 = b.size
              · rw [if_pos (by simpa using f3)]
                exact wpS_pure ⟨sm4, .inl ⟨_, _, rfl, doneB m5 f3⟩⟩
              rw [if_neg (by simpa using f3)]
              refine wpS_bind (wpS_elem ez ?_)
              refine wpS_bind (wpS_gallop (f := fun t => b.getD (j3 + 1 + t) z) hC (sm4.kind.trans hk) (hA z mz) (gal_f hB z (by omega)) (by omega) (gal_mono O sb (by omega)) fun r r1 r2 r3 => ?_)
              dsimp only
              have m6 : MgA lt a b (o4.push y ++ b.extract (j3 + 1) (j3 + 1 + r)) i4 (j3 + 1 + r) := m5.appB O sb fun t ht x ex => drop_le O sa ez (by
                have q := r2 t ht
                have e := getD_at (a := b) (i := j3 + 1 + t) z (by omega)
                rw [ex] at e
                cases e
                exact O.le_of q)
              have zw : ∀ x, b[j3 + 1 + r]? = some x → lle lt z x := fun x ex => by
                have hlt : j3 + 1 + r < b.size := by
                  rcases Nat.lt_or_ge (j3 + 1 + r) b.size with q | q
                  · exact q
                  · rw [Array.getElem?_eq_none q] at ex; cases ex
                have q := r3 r (Nat.le_refl _) (by omega)
                have e := getD_at (a := b) (i := j3 + 1 + r) z hlt
                rw [ex] at e
                cases e
                exact q
              by_cases hr0 : r > 0
              · rw [if_pos hr0]
                by_cases f4 : j3 + 1 + r = b.size
                · rw [if_pos (by simpa using f4)]
                  exact wpS_pure ⟨sm4, .inl ⟨_, _, rfl, doneB m6 f4⟩⟩
                rw [if_neg (by simpa using f4)]
                refine wpS_bind (wpS_elem ez ?_)
                obtain ⟨x', ex', _, _⟩ := arr_at (a := b) (i := j3 + 1 + r) (by omega)
                have m7 := m6.pushA O sa ez (drop_le O sb ex' (zw x' ex'))
                by_cases f5 : i4 + 1 + 1 = a.size
                · rw [if_pos (by simpa using f5)]
                  exact wpS_pure ⟨sm4, .inl ⟨_, _, rfl, last m7 f5⟩⟩
                rw [if_neg (by simpa using f5)]
                refine ite_wpS ?_ ?_
                · exact wpS_pure ⟨sm4, .inr ⟨_, _, _, _, _, _, rfl, ⟨m7, by omega, by omega⟩, by omega⟩⟩
                · exact wpS_pure ⟨sm4, _, _, _, _, _, _, rfl, ⟨m7, by omega, by omega⟩, by omega⟩
              · rw [if_neg hr0]
                refine wpS_bind (wpS_elem ez ?_)
                obtain ⟨x', ex', _, _⟩ := arr_at (a := b) (i := j3 + 1) (by omega)
                have m7 := m5.pushA O sa ez (drop_le O sb ex' (zw x' (by rw [show r = 0 by omega]; exact ex')))
                by_cases f5 : i4 + 1 + 1 = a.size
                · rw [if_pos (by simpa using f5)]
                  exact wpS_pure ⟨sm4, .inl ⟨_, _, rfl, last m7 f5⟩⟩
                rw [if_neg (by simpa using f5)]
                refine ite_wpS ?_ ?_
                · exact wpS_pure ⟨sm4, .inr ⟨_, _, _, _, _, _, rfl, ⟨m7, by omega, by omega⟩, by omega⟩⟩
                · exact wpS_pure ⟨sm4, _, _, _, _, _, _, rfl, ⟨m7, by omega, by omega⟩, by omega⟩
        · rintro c st2 ⟨sm2, o, i, j, g, u, v, rfl, i2, hs2⟩
          have := i2.la
          have := i2.lb
          omega
        · rintro c st3 ⟨sm3, ⟨m, r, rfl, hr⟩ | ⟨o, i, j, g, u, v, rfl, i3, hs3⟩⟩
          · exact wpS_pure ⟨sm3, _, _, rfl, hr⟩
          · dsimp only
            refine wpS_bind (wpS_modify (wpS_pure ⟨⟨sm3.arr, sm3.kind, sm3.fail, sm3.pend⟩, _, _, _, _, rfl, i3, by omega⟩))
  · rintro c st1 ⟨sm1, out, ia, ib, mg, rfl, i1, hs1⟩
    have := i1.la
    have := i1.lb
    omega
  · rintro c st1 ⟨sm1, m, r, rfl, hr⟩
    exact wpS_pure (h _ _ sm1 hr.1 hr.2)
end
end TT
namespace TT
open PySem PySem.W PyProof.Rows
abbrev pk (xs : Array Keyed) (i : Nat) : Keyed := xs.getD i (Value.none, Value.none)
abbrev fnS (lo : Nat) (st : SortSt) (i : Nat) : Keyed := pk (arrOf st) (lo + i)
structure SB (a₀ : List Keyed) (κ : SortKind) (lo : Nat) (pre : List Keyed) (pd : Array (Nat × Nat × Nat)) (st : SortSt) : Prop where
  perm : (arrOf st).toList.Perm a₀
  kind : kindOf st = κ
  fail : failedOf st = none
  pre : (arrOf st).toList.take lo = pre
  pend : pendingOf st = pd
theorem pk_of {p q : Array Keyed} {i j : Nat} (h : p[i]? = q[j]?) : pk p i = pk q j := by
  unfold pk
  rw [Array.getD_eq_getD_getElem?, Array.getD_eq_getD_getElem?, h]
theorem SB.size {a₀ : List Keyed} {κ : SortKind} {lo : Nat} {pre : List Keyed} {pd : Array (Nat × Nat × Nat)} {st : SortSt} (h : SB a₀ κ lo pre pd st) : (arrOf st).size = a₀.length := by
  rw [← Array.length_toList]; exact h.perm.length_eq
theorem take_keep {xs ys : Array Keyed} {lo : Nat} (h : ∀ k, k < lo → ys[k]? = xs[k]?) : ys.toList.take lo = xs.toList.take lo := by
  apply List.ext_getElem?
  intro k
  rw [List.getElem?_take, List.getElem?_take]
  by_cases hk : k < lo
  · rw [if_pos hk, if_pos hk, Array.getElem?_toList, Array.getElem?_toList, h k hk]
  · rw [if_neg hk, if_neg hk]
section
variable {prog : Program} {w : World} {A : Around} {E : Value → Shared → Prop} {s : Shared} {κ : SortKind} {a₀ : List Keyed} {lt : Keyed → Keyed → Bool} {lo : Nat} {pre : List Keyed} {pd : Array (Nat × Nat × Nat)}
theorem SB.mem {st : SortSt} (h : SB a₀ κ lo pre pd st) {i : Nat} (hi : i < a₀.length) : (arrOf st)[i]? = some (pk (arrOf st) i) ∧ pk (arrOf st) i ∈ a₀ := by
  have hi' : i < (arrOf st).size := h.size ▸ hi
  have e := getD_at (a := arrOf st) (i := i) (Value.none, Value.none) hi'
  exact ⟨e, h.perm.mem_iff.mp (Array.mem_toList_iff.mpr (Array.mem_of_getElem? e))⟩
theorem wpS_at {st : SortSt} {i j i0 j0 : Nat} {Q : Option Bool → SortSt → Prop} (hC : CmpS prog w A κ a₀ lt s) (hB : SB a₀ κ lo pre pd st) (ei : i0 = lo + i) (ej : j0 = lo + j) (hi : lo + i < a₀.length) (hj : lo + j < a₀.length)
    (h : Q (some (lt (fnS lo st i) (fnS lo st j))) st) : wpS (model prog w) A E s (ltAt' i0 j0) Q st := by
  subst ei ej
  rw [ltAt'_eq]
  refine wpS_bind (wpS_get ?_)
  refine wpS_bind (wpS_elem (hB.mem hi).1 (wpS_bind (wpS_elem (hB.mem hj).1 ?_)))
  exact wpS_cmp hC hB.kind (hB.mem hi).2 (hB.mem hj).2 h
theorem wpS_rev {st : SortSt} {p q i0 j0 : Nat} {Q : Unit → SortSt → Prop} (hB : SB a₀ κ lo pre pd st) (ei : i0 = lo + p) (ej : j0 = lo + q) (hq : lo + q ≤ a₀.length)
    (h : ∀ st', SB a₀ κ lo pre pd st' → (∀ i, fnS lo st' i = if p ≤ i ∧ i < q then fnS lo st (p + q - 1 - i) else fnS lo st i) → Q () st') : wpS (model prog w) A E s (reverseSlice' i0 j0) Q st := by
  subst ei ej
  rw [reverseSlice'_eq]
  have hj : lo + q ≤ (arrOf st).size := by rw [hB.size]; exact hq
  refine wpS_modify (h _ ⟨(Array.perm_iff_toList_perm.mp (mirror_perm _ _ _ _)).trans hB.perm, hB.kind, hB.fail, ?_, hB.pend⟩ fun i => ?_)
  · show (mirror (arrOf st) (lo + p) (lo + q) ((lo + q - (lo + p)) / 2)).toList.take lo = pre
    rw [take_keep (xs := arrOf st) fun k hk => by rw [getElem?_mirror_all hj, if_neg (by omega)]]
    exact hB.pre
  · show pk (mirror (arrOf st) (lo + p) (lo + q) ((lo + q - (lo + p)) / 2)) (lo + i) = _
    have e := getElem?_mirror_all (xs := arrOf st) (i := lo + p) hj (lo + i)
    by_cases hc : p ≤ i ∧ i < q
    · rw [if_pos (by omega), show lo + p + (lo + q) - 1 - (lo + i) = lo + (p + q - 1 - i) by omega] at e
      rw [if_pos hc]; exact pk_of e
    · rw [if_neg (by omega)] at e
      rw [if_neg hc]; exact pk_of e
theorem wpS_mov {st : SortSt} {k l i0 j0 : Nat} {Q : Unit → SortSt → Prop} (hB : SB a₀ κ lo pre pd st) (ei : i0 = lo + k) (ej : j0 = lo + l) (hk : lo + k < a₀.length) (hl : l ≤ k)
    (h : ∀ st', SB a₀ κ lo pre pd st' → (∀ i, fnS lo st' i = if i = l then fnS lo st k else if l < i ∧ i ≤ k then fnS lo st (i - 1) else fnS lo st i) → Q () st') : wpS (model prog w) A E s (moveDown' i0 j0) Q st := by
  subst ei ej
  rw [moveDown'_eq]
  have hj : lo + k < (arrOf st).size := by rw [hB.size]; exact hk
  have ed : lo + k - (lo + l) = k - l := by omega
  refine wpS_modify (h _ ⟨(Array.perm_iff_toList_perm.mp (bubble_perm _ _ _)).trans hB.perm, hB.kind, hB.fail, ?_, hB.pend⟩ fun i => ?_)
  · show (bubble (arrOf st) (lo + k) (lo + k - (lo + l))).toList.take lo = pre
    rw [take_keep (xs := arrOf st) fun x hx => by rw [getElem?_bubble hj _ (by omega), if_neg (by omega), if_neg (by omega)]]
    exact hB.pre
  · show pk (bubble (arrOf st) (lo + k) (lo + k - (lo + l))) (lo + i) = _
    have e := getElem?_bubble hj (lo + k - (lo + l)) (by omega) (lo + i)
    by_cases c1 : i = l
    · rw [if_pos (by omega)] at e
      rw [if_pos c1]; exact pk_of e
    · rw [if_neg (by omega)] at e
      rw [if_neg c1]
      by_cases c2 : l < i ∧ i ≤ k
      · rw [if_pos (by omega), show lo + i - 1 = lo + (i - 1) by omega] at e
        rw [if_pos c2]; exact pk_of e
      · rw [if_neg (by omega)] at e
        rw [if_neg c2]; exact pk_of e
end
/-- rising, falling -/
def SegF (lt : Keyed → Keyed → Bool) (F : Nat → Keyed) (m : Nat) : Prop := ∀ i j, i ≤ j → j < m → lle lt (F i) (F j)
def FalF (lt : Keyed → Keyed → Bool) (F : Nat → Keyed) (m : Nat) : Prop := ∀ i j, i ≤ j → j < m → lle lt (F j) (F i)
def Alk2 (lt : Keyed → Keyed → Bool) (x y : Keyed) : Prop := lle lt x y ∧ lle lt y x
def AlkF (lt : Keyed → Keyed → Bool) (F : Nat → Keyed) (m r : Nat) : Prop := ∀ k, m ≤ k + 1 + r → k < m → Alk2 lt (F k) (F (m - 1))
section
variable {lt : Keyed → Keyed → Bool} {F G : Nat → Keyed}
theorem SegF.one (O : LOrd lt) {m : Nat} (hs : SegF lt F m) (hm : 1 ≤ m) (h : lt (F m) (F (m - 1)) = false) : SegF lt F (m + 1) := by
  intro i j hij hj
  by_cases e : j = m
  · subst e
    by_cases e2 : i = j
    · subst e2; exact O.rfl' _
    · exact O.le_tr (hs i (j - 1) (by omega) (by omega)) h
  · exact hs i j hij (by omega)
theorem FalF.one (O : LOrd lt) {m : Nat} (hs : FalF lt F m) (hm : 1 ≤ m) (h : lle lt (F m) (F (m - 1))) : FalF lt F (m + 1) := by
  intro i j hij hj
  by_cases e : j = m
  · subst e
    by_cases e2 : i = j
    · subst e2; exact O.rfl' _
    · exact O.le_tr h (hs i (j - 1) (by omega) (by omega))
  · exact hs i j hij (by omega)
theorem FalF.same (O : LOrd lt) {m : Nat} (hs : FalF lt F m) (h : ∀ k, k < m → Alk2 lt (G k) (F k)) : FalF lt G m := fun i j hij hj =>
  O.le_tr (h j hj).1 (O.le_tr (hs i j hij hj) (h i (by omega)).2)
theorem AlkF.rev (O : LOrd lt) {m r : Nat} (ha : AlkF lt F m r) (hr : r + 1 ≤ m) (hG : ∀ i, G i = if m - (r + 1) ≤ i ∧ i < m then F (m - (r + 1) + m - 1 - i) else F i) (k : Nat) : Alk2 lt (G k) (F k) := by
  rw [hG]
  by_cases h : m - (r + 1) ≤ k ∧ k < m
  · rw [if_pos h]
    have a := ha (m - (r + 1) + m - 1 - k) (by omega) (by omega)
    have b := ha k (by omega) h.2
    exact ⟨O.le_tr a.1 b.2, O.le_tr b.1 a.2⟩
  · rw [if_neg h]
    exact ⟨O.rfl' _, O.rfl' _⟩
theorem AlkF.zero (O : LOrd lt) (m : Nat) : AlkF lt F (m + 1) 0 := fun k a b => by
  have : k = m + 1 - 1 := by omega
  subst this
  exact ⟨O.rfl' _, O.rfl' _⟩
theorem SegF.ofFal {m : Nat} (hf : FalF lt F m) (hG : ∀ i, G i = if 0 ≤ i ∧ i < m then F (0 + m - 1 - i) else F i) : SegF lt G m := by
  intro i j hij hj
  rw [hG, hG, if_pos (by omega), if_pos (by omega)]
  exact hf _ _ (by omega) (by omega)
end
section
variable {prog : Program} {w : World} {A : Around} {E : Value → Shared → Prop} {s : Shared} {κ : SortKind} {a₀ : List Keyed} {lt : Keyed → Keyed → Bool} {lo : Nat} {pre : List Keyed} {pd : Array (Nat × Nat × Nat)}
theorem wpS_count {st : SortSt} {nrem : Nat} {Q : Option Nat → SortSt → Prop} (O : LOrd lt) (hC : CmpS prog w A κ a₀ lt s) (hB : SB a₀ κ lo pre pd st) (hn : lo + nrem ≤ a₀.length) (h1 : 1 ≤ nrem)
    (h : ∀ m st', SB a₀ κ lo pre pd st' → 1 ≤ m → m ≤ nrem → SegF lt (fnS lo st') m → Q (some m) st') : wpS (model prog w) A E s (countRun' lo nrem) Q st := by
  refine wpS_bind (wpS_mono (wpS_forRange (I := fun x c st' => st' = st ∧ c = (none, x) ∧ SegF lt (fnS lo st) x)
    (Q := fun c st' => st' = st ∧ ∃ n, c = (none, n) ∧ 1 ≤ n ∧ n ≤ nrem ∧ SegF lt (fnS lo st) n ∧ (n = nrem ∨ lt (fnS lo st n) (fnS lo st (n - 1)) = true)) ?_ ?_ ⟨rfl, rfl, fun i j a b => ?_⟩) ?_)
  · rintro x c st' hx1 hx2 ⟨rfl, rfl, hs⟩
    dsimp only
    refine wpS_bind (wpS_at hC hB rfl (show lo + x - 1 = lo + (x - 1) by omega) (by omega) (by omega) ?_)
    cases e : lt (fnS lo st' x) (fnS lo st' (x - 1)) with
    | true => exact wpS_pure ⟨rfl, x, rfl, by omega, by omega, hs, .inr e⟩
    | false => exact wpS_pure ⟨rfl, rfl, hs.one O (by omega) e⟩
  · rintro c st' ⟨rfl, rfl, hs⟩
    rw [show max 1 nrem = nrem by omega] at hs ⊢
    exact ⟨rfl, nrem, rfl, h1, Nat.le_refl _, hs, .inl rfl⟩
  · have e : i = j := by omega
    subst e; exact O.rfl' _
  · rintro c st' ⟨rfl, n, rfl, n1, n2, hs, hor⟩
    dsimp only
    by_cases e : n = nrem
    · rw [if_pos (by simpa using e)]
      exact wpS_pure (h n _ hB n1 n2 hs)
    rw [if_neg (by simpa using e)]
    have hlt := hor.resolve_left e
    by_cases hg : n > 1
    · rw [if_pos hg]
      refine wpS_bind (wpS_at hC hB (i := 0) rfl (show lo + n - 1 = lo + (n - 1) by omega) (by omega) (by omega) ?_)
      cases e2 : lt (fnS lo st' 0) (fnS lo st' (n - 1)) with
      | true => exact wpS_pure (h n _ hB n1 n2 hs)
      | false =>
        simp only [Bool.false_eq_true, if_false]
        refine wpS_bind (wpS_rev hB (p := 0) (q := n) rfl rfl (by omega) fun st2 hB2 hF2 => ?_)
        have al : ∀ x, x < n → Alk2 lt (fnS lo st' x) (fnS lo st' 0) := fun x hx => ⟨O.le_tr (hs x (n - 1) (by omega) (by omega)) e2, hs 0 x (by omega) hx⟩
        have v : ∀ x, x < n → Alk2 lt (fnS lo st2 x) (fnS lo st' 0) := fun x hx => by
          rw [hF2, if_pos ⟨Nat.zero_le _, hx⟩]
          exact al _ (by omega)
        have fal : FalF lt (fnS lo st2) (n + 1) := fun i j hij hj => by
          by_cases ej : j = n
          · subst ej
            have er : fnS lo st2 j = fnS lo st' j := by rw [hF2, if_neg (by omega)]
            by_cases ei : i = j
            · subst ei; exact O.rfl' _
            · rw [er]
              exact O.le_tr (O.le_of hlt) (O.le_tr (al (j - 1) (by omega)).1 (v i (by omega)).2)
          · exact O.le_tr (v j (by omega)).1 (v i (by omega)).2
        refine wpS_bind (wpS_lift (wpAny_rule ⟨rfl, ?_⟩))
        refine wpS_bind (wpS_mono (wpS_forRange (I := fun x c st' => SB a₀ κ lo pre pd st' ∧ ∃ r, c = (none, x, r) ∧ r + 1 ≤ x ∧ FalF lt (fnS lo st') x ∧ AlkF lt (fnS lo st') x r)
          (Q := fun c st' => SB a₀ κ lo pre pd st' ∧ ∃ m r, c = (none, m, r) ∧ 1 ≤ m ∧ m ≤ nrem ∧ r + 1 ≤ m ∧ FalF lt (fnS lo st') m ∧ AlkF lt (fnS lo st') m r) ?_ ?_ ⟨hB2, 0, rfl, by omega, fal, AlkF.zero O _⟩) ?_)
        · rintro x c st3 hx1 hx2 ⟨hB3, r, rfl, hr, hf3, ha3⟩
          dsimp only
          refine wpS_bind (wpS_at hC hB3 rfl (show lo + x - 1 = lo + (x - 1) by omega) (by omega) (by omega) ?_)
          cases e3 : lt (fnS lo st3 x) (fnS lo st3 (x - 1)) with
          | true =>
            simp only [if_true]
            have up := hf3.one O (by omega) (O.le_of e3)
            by_cases hr0 : r > 0
            · rw [if_pos hr0]
              refine wpS_bind (wpS_rev hB3 (p := x - (r + 1)) (q := x) (by omega) rfl (by omega) fun st4 hB4 hF4 => ?_)
              exact wpS_pure ⟨hB4, 0, rfl, by omega, up.same O fun k _ => ha3.rev O hr hF4 k, AlkF.zero O _⟩
            · rw [if_neg hr0]
              exact wpS_pure ⟨hB3, 0, rfl, by omega, up, AlkF.zero O _⟩
          | false =>
            simp only [Bool.false_eq_true, if_false]
            refine wpS_bind (wpS_at hC hB3 (show lo + x - 1 = lo + (x - 1) by omega) rfl (by omega) (by omega) ?_)
            cases e4 : lt (fnS lo st3 (x - 1)) (fnS lo st3 x) with
            | true => exact wpS_pure ⟨hB3, x, r, rfl, by omega, by omega, hr, hf3, ha3⟩
            | false =>
              refine wpS_pure ⟨hB3, r + 1, rfl, by omega, hf3.one O (by omega) e4, fun k a b => ?_⟩
              rw [show x + 1 - 1 = x by omega]
              by_cases hk : k = x
              · subst hk; exact ⟨O.rfl' _, O.rfl' _⟩
              · have q := ha3 k (by omega) (by omega)
                exact ⟨O.le_tr q.1 e3, O.le_tr e4 q.2⟩
        · rintro c st3 ⟨hB3, r, rfl, hr, hf3, ha3⟩
          rw [show max (n + 1) nrem = nrem by omega] at *
          exact ⟨hB3, nrem, r, rfl, h1, Nat.le_refl _, hr, hf3, ha3⟩
        · rintro c st3 ⟨hB3, m, r, rfl, m1, m2, hr, hf3, ha3⟩
          dsimp only
          by_cases hr0 : r > 0
          · rw [if_pos hr0]
            refine wpS_bind (wpS_rev hB3 (p := m - (r + 1)) (q := m) (by omega) rfl (by omega) fun st4 hB4 hF4 => ?_)
            have hf4 : FalF lt (fnS lo st4) m := hf3.same O fun k _ => ha3.rev O hr hF4 k
            refine wpS_bind (wpS_rev hB4 (p := 0) (q := m) rfl rfl (by omega) fun st5 hB5 hF5 => ?_)
            have hs5 : SegF lt (fnS lo st5) m := SegF.ofFal hf4 hF5
            refine wpS_bind (wpS_mono (wpS_forRange (I := fun x c st' => st' = st5 ∧ c = (none, x) ∧ SegF lt (fnS lo st5) x)
              (Q := fun c st' => st' = st5 ∧ ∃ n, c = (none, n) ∧ 1 ≤ n ∧ n ≤ nrem ∧ SegF lt (fnS lo st5) n) ?_ ?_ ⟨rfl, rfl, hs5⟩) ?_)
            · rintro x c st6 hx1 hx2 ⟨rfl, rfl, hs⟩
              dsimp only
              refine wpS_bind (wpS_at hC hB5 rfl (show lo + x - 1 = lo + (x - 1) by omega) (by omega) (by omega) ?_)
              cases e5 : lt (fnS lo st6 x) (fnS lo st6 (x - 1)) with
              | true => exact wpS_pure ⟨rfl, x, rfl, by omega, by omega, hs⟩
              | false => exact wpS_pure ⟨rfl, rfl, hs.one O (by omega) e5⟩
            · rintro c st6 ⟨rfl, rfl, hs⟩
              rw [show max m nrem = nrem by omega] at hs ⊢
              exact ⟨rfl, nrem, rfl, h1, Nat.le_refl _, hs⟩
            · rintro c st6 ⟨rfl, n', rfl, a1, a2, a3⟩
              exact wpS_pure (h n' _ hB5 a1 a2 a3)
          · rw [if_neg hr0]
            have hB4 := hB3
            have hf4 := hf3
            refine wpS_bind (wpS_rev hB4 (p := 0) (q := m) rfl rfl (by omega) fun st5 hB5 hF5 => ?_)
            have hs5 : SegF lt (fnS lo st5) m := SegF.ofFal hf4 hF5
            refine wpS_bind (wpS_mono (wpS_forRange (I := fun x c st' => st' = st5 ∧ c = (none, x) ∧ SegF lt (fnS lo st5) x)
              (Q := fun c st' => st' = st5 ∧ ∃ n, c = (none, n) ∧ 1 ≤ n ∧ n ≤ nrem ∧ SegF lt (fnS lo st5) n) ?_ ?_ ⟨rfl, rfl, hs5⟩) ?_)
            · rintro x c st6 hx1 hx2 ⟨rfl, rfl, hs⟩
              dsimp only
              refine wpS_bind (wpS_at hC hB5 rfl (show lo + x - 1 = lo + (x - 1) by omega) (by omega) (by omega) ?_)
              cases e5 : lt (fnS lo st6 x) (fnS lo st6 (x - 1)) with
              | true => exact wpS_pure ⟨rfl, x, rfl, by omega, by omega, hs⟩
              | false => exact wpS_pure ⟨rfl, rfl, hs.one O (by omega) e5⟩
            · rintro c st6 ⟨rfl, rfl, hs⟩
              rw [show max m nrem = nrem by omega] at hs ⊢
              exact ⟨rfl, nrem, rfl, h1, Nat.le_refl _, hs⟩
            · rintro c st6 ⟨rfl, n', rfl, a1, a2, a3⟩
              exact wpS_pure (h n' _ hB5 a1 a2 a3)
    · rw [if_neg hg]
      have hB2 := hB
      have fal : FalF lt (fnS lo st') (n + 1) := fun i j hij hj => by
        by_cases ej : i = j
        · subst ej; exact O.rfl' _
        · have e3 : i = n - 1 := by omega
          have e4 : j = n := by omega
          subst e3 e4
          exact O.le_of hlt
      refine wpS_bind (wpS_lift (wpAny_rule ⟨rfl, ?_⟩))
      refine wpS_bind (wpS_mono (wpS_forRange (I := fun x c st' => SB a₀ κ lo pre pd st' ∧ ∃ r, c = (none, x, r) ∧ r + 1 ≤ x ∧ FalF lt (fnS lo st') x ∧ AlkF lt (fnS lo st') x r)
        (Q := fun c st' => SB a₀ κ lo pre pd st' ∧ ∃ m r, c = (none, m, r) ∧ 1 ≤ m ∧ m ≤ nrem ∧ r + 1 ≤ m ∧ FalF lt (fnS lo st') m ∧ AlkF lt (fnS lo st') m r) ?_ ?_ ⟨hB2, 0, rfl, by omega, fal, AlkF.zero O _⟩) ?_)
      · rintro x c st3 hx1 hx2 ⟨hB3, r, rfl, hr, hf3, ha3⟩
        dsimp only
        refine wpS_bind (wpS_at hC hB3 rfl (show lo + x - 1 = lo + (x - 1) by omega) (by omega) (by omega) ?_)
        cases e3 : lt (fnS lo st3 x) (fnS lo st3 (x - 1)) with
        | true =>
          simp only [if_true]
          have up := hf3.one O (by omega) (O.le_of e3)
          by_cases hr0 : r > 0
          · rw [if_pos hr0]
            refine wpS_bind (wpS_rev hB3 (p := x - (r + 1)) (q := x) (by omega) rfl (by omega) fun st4 hB4 hF4 => ?_)
            exact wpS_pure ⟨hB4, 0, rfl, by omega, up.same O fun k _ => ha3.rev O hr hF4 k, AlkF.zero O _⟩
          · rw [if_neg hr0]
            exact wpS_pure ⟨hB3, 0, rfl, by omega, up, AlkF.zero O _⟩
        | false =>
          simp only [Bool.false_eq_true, if_false]
          refine wpS_bind (wpS_at hC hB3 (show lo + x - 1 = lo + (x - 1) by omega) rfl (by omega) (by omega) ?_)
          cases e4 : lt (fnS lo st3 (x - 1)) (fnS lo st3 x) with
          | true => exact wpS_pure ⟨hB3, x, r, rfl, by omega, by omega, hr, hf3, ha3⟩
          | false =>
            refine wpS_pure ⟨hB3, r + 1, rfl, by omega, hf3.one O (by omega) e4, fun k a b => ?_⟩
            rw [show x + 1 - 1 = x by omega]
            by_cases hk : k = x
            · subst hk; exact ⟨O.rfl' _, O.rfl' _⟩
            · have q := ha3 k (by omega) (by omega)
              exact ⟨O.le_tr q.1 e3, O.le_tr e4 q.2⟩
      · rintro c st3 ⟨hB3, r, rfl, hr, hf3, ha3⟩
        rw [show max (n + 1) nrem = nrem by omega] at *
        exact ⟨hB3, nrem, r, rfl, h1, Nat.le_refl _, hr, hf3, ha3⟩
      · rintro c st3 ⟨hB3, m, r, rfl, m1, m2, hr, hf3, ha3⟩
        dsimp only
        by_cases hr0 : r > 0
        · rw [if_pos hr0]
          refine wpS_bind (wpS_rev hB3 (p := m - (r + 1)) (q := m) (by omega) rfl (by omega) fun st4 hB4 hF4 => ?_)
          have hf4 : FalF lt (fnS lo st4) m := hf3.same O fun k _ => ha3.rev O hr hF4 k
          refine wpS_bind (wpS_rev hB4 (p := 0) (q := m) rfl rfl (by omega) fun st5 hB5 hF5 => ?_)
          have hs5 : SegF lt (fnS lo st5) m := SegF.ofFal hf4 hF5
          refine wpS_bind (wpS_mono (wpS_forRange (I := fun x c st' => st' = st5 ∧ c = (none, x) ∧ SegF lt (fnS lo st5) x)
            (Q := fun c st' => st' = st5 ∧ ∃ n, c = (none, n) ∧ 1 ≤ n ∧ n ≤ nrem ∧ SegF lt (fnS lo st5) n) ?_ ?_ ⟨rfl, rfl, hs5⟩) ?_)
          · rintro x c st6 hx1 hx2 ⟨rfl, rfl, hs⟩
            dsimp only
            refine wpS_bind (wpS_at hC hB5 rfl (show lo + x - 1 = lo + (x - 1) by omega) (by omega) (by omega) ?_)
            cases e5 : lt (fnS lo st6 x) (fnS lo st6 (x - 1)) with
            | true => exact wpS_pure ⟨rfl, x, rfl, by omega, by omega, hs⟩
            | false => exact wpS_pure ⟨rfl, rfl, hs.one O (by omega) e5⟩
          · rintro c st6 ⟨rfl, rfl, hs⟩
            rw [show max m nrem = nrem by omega] at hs ⊢
            exact ⟨rfl, nrem, rfl, h1, Nat.le_refl _, hs⟩
          · rintro c st6 ⟨rfl, n', rfl, a1, a2, a3⟩
            exact wpS_pure (h n' _ hB5 a1 a2 a3)
        · rw [if_neg hr0]
          have hB4 := hB3
          have hf4 := hf3
          refine wpS_bind (wpS_rev hB4 (p := 0) (q := m) rfl rfl (by omega) fun st5 hB5 hF5 => ?_)
          have hs5 : SegF lt (fnS lo st5) m := SegF.ofFal hf4 hF5
          refine wpS_bind (wpS_mono (wpS_forRange (I := fun x c st' => st' = st5 ∧ c = (none, x) ∧ SegF lt (fnS lo st5) x)
            (Q := fun c st' => st' = st5 ∧ ∃ n, c = (none, n) ∧ 1 ≤ n ∧ n ≤ nrem ∧ SegF lt (fnS lo st5) n) ?_ ?_ ⟨rfl, rfl, hs5⟩) ?_)
          · rintro x c st6 hx1 hx2 ⟨rfl, rfl, hs⟩
            dsimp only
            refine wpS_bind (wpS_at hC hB5 rfl (show lo + x - 1 = lo + (x - 1) by omega) (by omega) (by omega) ?_)
            cases e5 : lt (fnS lo st6 x) (fnS lo st6 (x - 1)) with
            | true => exact wpS_pure ⟨rfl, x, rfl, by omega, by omega, hs⟩
            | false => exact wpS_pure ⟨rfl, rfl, hs.one O (by omega) e5⟩
          · rintro c st6 ⟨rfl, rfl, hs⟩
            rw [show max m nrem = nrem by omega] at hs ⊢
            exact ⟨rfl, nrem, rfl, h1, Nat.le_refl _, hs⟩
          · rintro c st6 ⟨rfl, n', rfl, a1, a2, a3⟩
            exact wpS_pure (h n' _ hB5 a1 a2 a3)
theorem wpS_bins {st : SortSt} {n ok : Nat} {Q : Bool → SortSt → Prop} (O : LOrd lt) (hC : CmpS prog w A κ a₀ lt s) (hB : SB a₀ κ lo pre pd st) (hn : lo + n ≤ a₀.length) (hok : ok ≤ n) (hs : SegF lt (fnS lo st) ok)
    (h : ∀ st', SB a₀ κ lo pre pd st' → SegF lt (fnS lo st') n → Q true st') : wpS (model prog w) A E s (binarySort' lo n ok) Q st := by
  refine wpS_bind (wpS_mono (wpS_forRange (I := fun k c st' => c = (none, ()) ∧ SB a₀ κ lo pre pd st' ∧ SegF lt (fnS lo st') (min k n))
    (Q := fun c st' => c = (none, ()) ∧ SB a₀ κ lo pre pd st' ∧ SegF lt (fnS lo st') n) ?_ ?_ ⟨rfl, hB, fun i j a b => ?_⟩) ?_)
  · rintro k c st' hk1 hk2 ⟨rfl, hB', hs'⟩
    rw [Nat.min_eq_left (Nat.le_of_lt hk2)] at hs'
    refine wpS_bind (wpS_mono (wpS_forRange (I := fun x c st'' => st'' = st' ∧ ∃ lw up, c = (none, lw, up) ∧ lw ≤ up ∧ up ≤ k ∧ up - lw ≤ k - x ∧
        (∀ i, i < lw → lle lt (fnS lo st' i) (fnS lo st' k)) ∧ (∀ i, up ≤ i → i < k → lle lt (fnS lo st' k) (fnS lo st' i)))
      (Q := fun c st'' => st'' = st' ∧ ∃ lw up, c = (none, lw, up) ∧ lw ≤ k ∧
        (∀ i, i < lw → lle lt (fnS lo st' i) (fnS lo st' k)) ∧ (∀ i, lw ≤ i → i < k → lle lt (fnS lo st' k) (fnS lo st' i))) ?_ ?_ ⟨rfl, 0, k, rfl, by omega, by omega, by omega, fun i hi => by omega, fun i h1 h2 => by omega⟩) ?_)
    · rintro x c st'' _ hx ⟨rfl, l, r, rfl, hlr, hrk, hm, hlo, hhi⟩
      dsimp only
      by_cases hge : l ≥ r
      · rw [if_pos hge]
        exact wpS_pure ⟨rfl, l, r, rfl, by omega, hlo, fun i a b => hhi i (by omega) b⟩
      · rw [if_neg hge]
        refine wpS_bind (wpS_at hC hB' rfl rfl (by omega) (by omega) ?_)
        cases e : lt (fnS lo st'' k) (fnS lo st'' ((l + r) / 2)) with
        | true => exact wpS_pure ⟨rfl, l, (l + r) / 2, rfl, by omega, by omega, by omega, hlo, fun i a b => O.le_tr (O.le_of e) (hs' _ i a b)⟩
        | false => exact wpS_pure ⟨rfl, (l + r) / 2 + 1, r, rfl, by omega, by omega, by omega, fun i a => O.le_tr (hs' i ((l + r) / 2) (by omega) (by omega)) e, hhi⟩
    · rintro c st'' ⟨rfl, l, r, rfl, hlr, hrk, hm, hlo, hhi⟩
      exact ⟨rfl, l, r, rfl, by omega, hlo, fun i a b => hhi i (by omega) b⟩
    · rintro c st'' ⟨rfl, l, r, rfl, hlk, hlo, hhi⟩
      refine wpS_bind (wpS_mov hB' (k := k) (l := l) rfl rfl (by omega) hlk fun st3 hB3 hF3 => ?_)
      refine wpS_pure ⟨rfl, hB3, ?_⟩
      rw [Nat.min_eq_left (by omega)]
      intro i j hij hj
      rw [hF3, hF3]
      by_cases c1 : i = l
      · rw [if_pos c1]
        by_cases c2 : j = l
        · rw [if_pos c2]; exact O.rfl' _
        · rw [if_neg c2, if_pos ⟨by omega, by omega⟩]; exact hhi _ (by omega) (by omega)
      · rw [if_neg c1]
        by_cases c3 : l < i ∧ i ≤ k
        · rw [if_pos c3, if_neg (by omega), if_pos ⟨by omega, by omega⟩]
          exact hs' _ _ (by omega) (by omega)
        · rw [if_neg c3]
          by_cases c2 : j = l
          · rw [if_pos c2]; exact hlo i (by omega)
          · rw [if_neg c2]
            by_cases c4 : l < j ∧ j ≤ k
            · rw [if_pos c4]; exact hs' _ _ (by omega) (by omega)
            · rw [if_neg c4]; exact hs' _ _ hij (by omega)
  · rintro c st' ⟨hc, hB', hs'⟩
    rw [show min (max (max ok 1) n) n = n by omega] at hs'
    exact ⟨hc, hB', hs'⟩
  · by_cases c1 : ok = 0
    · have : i = j := by omega
      subst this; exact O.rfl' _
    · exact hs i j a (by omega)
  · rintro c st' ⟨rfl, hB', hs'⟩
    exact wpS_pure (h _ hB' hs')
end
end TT
namespace TT
open PySem PySem.W PyProof.Rows
noncomputable def mergeHi' : Array Keyed → Array Keyed → StateT SortSt Sem (Array Keyed) := sortPriv% PySem.Builtin.mergeHi
section
variable {prog : Program} {w : World} {A : Around} {E : Value → Shared → Prop} {s : Shared} {κ : SortKind} {a₀ : List Keyed} {lt : Keyed → Keyed → Bool}
theorem mem_cut {a : Array Keyed} {t n : Nat} {x : Keyed} (h : x ∈ (a.toList.take n).drop t) : ∃ j, t ≤ j ∧ j < n ∧ a[j]? = some x := by
  obtain ⟨j, hj, e⟩ := List.mem_iff_getElem.mp h
  rw [List.length_drop, List.length_take, Array.length_toList] at hj
  refine ⟨t + j, by omega, by omega, ?_⟩
  rw [← e, List.getElem_drop, List.getElem_take]
  have : t + j < a.size := by omega
  simp [this]
theorem mem_cut0 {a : Array Keyed} {n : Nat} {x : Keyed} (h : x ∈ a.toList.take n) : ∃ j, j < n ∧ a[j]? = some x := by
  obtain ⟨j, _, h1, h2⟩ := mem_cut (t := 0) (a := a) (n := n) (x := x) (by rw [List.drop_zero]; exact h)
  exact ⟨j, h1, h2⟩
theorem take_le (O : LOrd lt) {a : Array Keyed} {n : Nat} {x y : Keyed} (sa : Srt lt a.toList) (hx : a[n - 1]? = some x) (h : lle lt x y) : ∀ z ∈ a.toList.take n, lle lt z y := fun z hz => by
  obtain ⟨j, hj, ej⟩ := mem_cut0 hz
  exact O.le_tr (srt_at O sa (by omega) ej hx) h
abbrev MhA (lt : Keyed → Keyed → Bool) (a b out : Array Keyed) (na nb : Nat) : Prop := Mh lt a.toList b.toList out.toList na nb
theorem cut_one {a : Array Keyed} {n : Nat} {x : Keyed} (hn : 1 ≤ n) (hx : a[n - 1]? = some x) : (a.toList.take n).drop (n - 1) = [x] := by
  rw [List.drop_take, show n - (n - 1) = 1 by omega]
  exact drop_one hx
theorem MhA.pushA {a b out : Array Keyed} {na nb : Nat} {x : Keyed} (h : MhA lt a b out na nb) (sa : Srt lt a.toList) (hn : 1 ≤ na) (hx : a[na - 1]? = some x) (hz : ∀ z ∈ b.toList.take nb, lle lt z x) : MhA lt a b (out.push x) (na - 1) nb := by
  have := h.stepA (na - 1) (by omega) sa (by rw [cut_one hn hx]; intro y hy z; rw [List.mem_singleton.mp hy]; exact hz z)
  rw [cut_one hn hx] at this
  unfold MhA
  rw [Array.toList_push]
  exact this
theorem MhA.pushB {a b out : Array Keyed} {na nb : Nat} {y : Keyed} (h : MhA lt a b out na nb) (sb : Srt lt b.toList) (hn : 1 ≤ nb) (hy : b[nb - 1]? = some y) (hz : ∀ z ∈ a.toList.take na, lle lt z y) : MhA lt a b (out.push y) na (nb - 1) :=
  (MhA.pushA (a := b) (b := a) h.sym sb hn hy hz).sym
theorem MhA.appA {a b out : Array Keyed} {na nb t : Nat} (h : MhA lt a b out na nb) (sa : Srt lt a.toList) (ht : t ≤ na) (hz : ∀ j, t ≤ j → j < na → ∀ x, a[j]? = some x → ∀ z ∈ b.toList.take nb, lle lt z x) :
    MhA lt a b (out ++ (a.extract t na).reverse) t nb := by
  have := h.stepA t ht sa (fun y hy => by obtain ⟨j, h1, h2, e⟩ := mem_cut hy; exact hz j h1 h2 y e)
  unfold MhA
  rw [Array.toList_append, Array.toList_reverse, Array.toList_extract, List.extract_eq_take_drop, ← List.drop_take]
  exact this
theorem MhA.appB {a b out : Array Keyed} {na nb t : Nat} (h : MhA lt a b out na nb) (sb : Srt lt b.toList) (ht : t ≤ nb) (hz : ∀ j, t ≤ j → j < nb → ∀ x, b[j]? = some x → ∀ z ∈ a.toList.take na, lle lt z x) :
    MhA lt a b (out ++ (b.extract t nb).reverse) na t := (MhA.appA (a := b) (b := a) h.sym sb ht hz).sym
theorem ext_start (a : Array Keyed) (n : Nat) : (a.extract 0 n).toList = a.toList.take n := by
  rw [Array.toList_extract, List.extract_eq_take_drop, List.drop_zero, Nat.sub_zero]
theorem MhA.doneA {a b out : Array Keyed} {na nb : Nat} (h : MhA lt a b out na nb) (sb : Srt lt b.toList) (e : a.toList.take na = []) : ResA lt a b (a.extract 0 na ++ b.extract 0 nb ++ out.reverse) := by
  have := h.fin (X := a.toList.take na ++ b.toList.take nb) (List.Perm.refl _) (by rw [e, List.nil_append]; exact sb.sublist (List.take_sublist _ _))
  unfold ResA
  rw [Array.toList_append, Array.toList_append, ext_start, ext_start, Array.toList_reverse]
  exact this
theorem MhA.doneB {a b out : Array Keyed} {na nb : Nat} (h : MhA lt a b out na nb) (sa : Srt lt a.toList) (e : b.toList.take nb = []) : ResA lt a b (a.extract 0 na ++ b.extract 0 nb ++ out.reverse) := by
  have := h.fin (X := a.toList.take na ++ b.toList.take nb) (List.Perm.refl _) (by rw [e, List.append_nil]; exact sa.sublist (List.take_sublist _ _))
  unfold ResA
  rw [Array.toList_append, Array.toList_append, ext_start, ext_start, Array.toList_reverse]
  exact this
theorem MhA.firstB {a b out : Array Keyed} {na nb : Nat} (h : MhA lt a b out na nb) (sa : Srt lt a.toList) (sb : Srt lt b.toList) (hl : ∀ x ∈ b.toList.take nb, ∀ z ∈ a.toList, lle lt x z) : ResA lt a b (b.extract 0 nb ++ a.extract 0 na ++ out.reverse) := by
  have := h.fin (X := b.toList.take nb ++ a.toList.take na) List.perm_append_comm (List.pairwise_append.mpr ⟨sb.sublist (List.take_sublist _ _), sa.sublist (List.take_sublist _ _), fun x hx z hz => hl x hx z (List.mem_of_mem_take hz)⟩)
  unfold ResA
  rw [Array.toList_append, Array.toList_append, ext_start, ext_start, Array.toList_reverse]
  exact this
/-- what holds within a merge from above that is not at its end -/
structure InH (lt : Keyed → Keyed → Bool) (a b out : Array Keyed) (na nb : Nat) : Prop where
  mh : MhA lt a b out na nb
  la : 1 ≤ na
  lb : 2 ≤ nb
  ua : na ≤ a.size
  ub : nb ≤ b.size
theorem wpS_mergeHi {st : SortSt} {a b : Array Keyed} {Q : Array Keyed → SortSt → Prop} (O : LOrd lt) (hC : CmpS prog w A κ a₀ lt s) (hk : kindOf st = κ)
    (hA : ∀ x ∈ a.toList, x ∈ a₀) (hB : ∀ x ∈ b.toList, x ∈ a₀) (sa : Srt lt a.toList) (sb : Srt lt b.toList) (h1 : 1 ≤ a.size) (h2 : 1 ≤ b.size)
    (hf : ∀ x, b[0]? = some x → ∀ z ∈ a.toList, lle lt x z) (hl : ∀ x ∈ b.toList, ∀ z, a[a.size - 1]? = some z → lle lt x z)
    (h : ∀ m st', Sm st st' → Srt lt m.toList → m.toList.Perm (a.toList ++ b.toList) → Q m st') : wpS (model prog w) A E s (mergeHi' a b) Q st := by
  refine wpS_bind (wpS_lift (wpAny_rule ⟨rfl, ?_⟩))
  obtain ⟨al, eal, _, _⟩ := arr_at (a := a) (i := a.size - 1) (by omega)
  refine wpS_bind (wpS_elem eal ?_)
  have mh1 : MhA lt a b #[al] (a.size - 1) b.size := by
    have m0 : MhA lt a b #[] a.size b.size := by
      refine ⟨?_, List.Pairwise.nil, fun x hx => (by cases hx), fun x hx => (by cases hx)⟩
      rw [List.drop_eq_nil_iff.mpr (by simp), List.drop_eq_nil_iff.mpr (by simp)]
      exact List.Perm.refl _
    exact m0.pushA sa h1 eal fun z hz => hl z (List.mem_of_mem_take hz) al eal
  have first : ∀ {out : Array Keyed} {na nb : Nat}, MhA lt a b out na nb → nb = 1 → ResA lt a b (b.extract 0 nb ++ a.extract 0 na ++ out.reverse) := fun {out na nb} m e => by
    refine m.firstB sa sb fun x hx z hz => ?_
    obtain ⟨j, hj, ej⟩ := mem_cut0 hx
    rw [show j = 0 by omega] at ej
    exact hf x ej z hz
  have doneA : ∀ {out : Array Keyed} {na nb : Nat}, MhA lt a b out na nb → na = 0 → ResA lt a b (a.extract 0 na ++ b.extract 0 nb ++ out.reverse) := fun m e => m.doneA sb (by rw [e]; rfl)
  have doneB : ∀ {out : Array Keyed} {na nb : Nat}, MhA lt a b out na nb → nb = 0 → ResA lt a b (a.extract 0 na ++ b.extract 0 nb ++ out.reverse) := fun m e => m.doneB sa (by rw [e]; rfl)
  dsimp only
  by_cases e1 : a.size - 1 = 0
  · rw [if_pos (by simpa using e1)]
    have r := doneA mh1 e1
    exact wpS_pure (h _ _ (Sm.refl _) r.1 r.2)
  rw [if_neg (by simpa using e1)]
  by_cases e2 : b.size = 1
  · rw [if_pos (by simpa using e2)]
    have r := first mh1 e2
    exact wpS_pure (h _ _ (Sm.refl _) r.1 r.2)
  rw [if_neg (by simpa using e2)]
  refine wpS_bind (wpS_get ?_)
  refine wpS_bind (wpS_mono (wpS_forRange (I := fun x c st' => Sm st st' ∧ ∃ ia ib out mg, c = (none, ia, ib, out, mg) ∧ InH lt a b out ia ib ∧ ia + ib + x + 1 ≤ a.size + b.size)
    (Q := fun c st' => Sm st st' ∧ ∃ m r, c = (some m, r) ∧ ResA lt a b m) ?_ ?_ ⟨Sm.refl _, _, _, _, _, rfl, ⟨mh1, by omega, by omega, by omega, by omega⟩, by omega⟩) ?_)
  · rintro x c st1 _ hx ⟨sm1, ia, ib, out, mg, rfl, i1, hs1⟩
    dsimp only
    have hia := i1.la
    refine wpS_bind (wpS_mono (wpS_forRange (I := fun x c st' => st' = st1 ∧ ∃ ia' ib' out' u v, c = (none, ia', ib', out', u, v) ∧ InH lt a b out' ia' ib' ∧ ia' + ib' + x ≤ ia + ib)
      (Q := fun c st' => st' = st1 ∧ ((∃ m r, c = (some m, r) ∧ ResA lt a b m) ∨ ∃ ia' ib' out' u v, c = (none, ia', ib', out', u, v) ∧ InH lt a b out' ia' ib' ∧ ia' + ib' + 1 ≤ ia + ib)) ?_ ?_ ⟨rfl, _, _, _, _, _, rfl, i1, by omega⟩) ?_)
    · rintro x2 c st2 _ hx2 ⟨rfl, i, j, o, u, v, rfl, i2, hs2⟩
      have l1 := i2.la
      have l2 := i2.lb
      have l3 := i2.ua
      have l4 := i2.ub
      obtain ⟨y, ey, my, _⟩ := arr_at (a := b) (i := j - 1) (by omega)
      obtain ⟨z, ez, mz, _⟩ := arr_at (a := a) (i := i - 1) (by omega)
      dsimp only
      refine wpS_bind (wpS_elem ey (wpS_bind (wpS_elem ez (wpS_bind (wpS_cmp hC (sm1.kind.trans hk) (hB y my) (hA z mz) ?_)))))
      cases e : lt y z with
      | true =>
        have m2 := i2.mh.pushA sa (by omega) ez (take_le O sb ey (O.le_of e))
        simp only [if_true]
        refine wpS_bind (wpS_elem ez ?_)
        by_cases f1 : i - 1 = 0
        · rw [if_pos (by simpa using f1)]
          exact wpS_pure ⟨rfl, .inl ⟨_, _, rfl, doneA m2 f1⟩⟩
        rw [if_neg (by simpa using f1)]
        have i3 : InH lt a b (o.push z) (i - 1) j := ⟨m2, by omega, by omega, by omega, by omega⟩
        refine ite_wpS ?_ ?_
        · exact wpS_pure ⟨rfl, .inr ⟨_, _, _, _, _, rfl, i3, by omega⟩⟩
        · exact wpS_pure ⟨rfl, _, _, _, _, _, rfl, i3, by omega⟩
      | false =>
        have m2 := i2.mh.pushB sb (by omega) ey (take_le O sa ez e)
        simp only [Bool.false_eq_true, if_false]
        refine wpS_bind (wpS_elem ey ?_)
        by_cases f1 : j - 1 = 1
        · rw [if_pos (by simpa using f1)]
          exact wpS_pure ⟨rfl, .inl ⟨_, _, rfl, first m2 f1⟩⟩
        rw [if_neg (by simpa using f1)]
        have i3 : InH lt a b (o.push y) i (j - 1) := ⟨m2, by omega, by omega, by omega, by omega⟩
        refine ite_wpS ?_ ?_
        · exact wpS_pure ⟨rfl, .inr ⟨_, _, _, _, _, rfl, i3, by omega⟩⟩
        · exact wpS_pure ⟨rfl, _, _, _, _, _, rfl, i3, by omega⟩
    · rintro c st2 ⟨rfl, i, j, o, u, v, rfl, i2, hs2⟩
      have := i2.la
      omega
    · rintro c st2 ⟨rfl, ⟨m, r, rfl, hr⟩ | ⟨p, q, o2, u, v, rfl, i2, hs2⟩⟩
      · exact wpS_pure ⟨sm1, _, _, rfl, hr⟩
      · dsimp only
        refine wpS_bind (wpS_lift (wpAny_rule ⟨rfl, ?_⟩))
        refine wpS_bind (wpS_mono (wpS_forRange (I := fun x c st' => Sm st st' ∧ ∃ ia' ib' out' g u v, c = (none, ia', ib', out', g, u, v) ∧ InH lt a b out' ia' ib' ∧ ia' + ib' + x ≤ p + q)
          (Q := fun c st' => Sm st st' ∧ ((∃ m r, c = (some m, r) ∧ ResA lt a b m) ∨ ∃ ia' ib' out' g u v, c = (none, ia', ib', out', g, u, v) ∧ InH lt a b out' ia' ib' ∧ ia' + ib' ≤ p + q)) ?_ ?_ ⟨sm1, _, _, _, _, _, _, rfl, i2, by omega⟩) ?_)
        · rintro x3 c st3 _ hx3 ⟨sm3, i3, j3, o3, g, u3, v3, rfl, n3, hs3⟩
          dsimp only
          have hi3 := n3.la
          have hj3 := n3.lb
          have ui3 := n3.ua
          have uj3 := n3.ub
          have mg3 := n3.mh
          obtain ⟨y, ey, my, _⟩ := arr_at (a := b) (i := j3 - 1) (by omega)
          by_cases hg : g > 1
          case' pos => rw [if_pos hg]
          case' neg => rw [if_neg hg]
          all_goals
            refine wpS_bind (wpS_setG sm3 fun st4 sm4 => ?_)
            refine wpS_bind (wpS_elem ey ?_)
            refine wpS_bind (wpS_gallop (f := fun t => a.getD (0 + t) y) hC (sm4.kind.trans hk) (hB y my) (gal_f hA y (by omega)) (by omega) (gal_mono O sa (by omega)) fun k k1 k2 k3 => ?_)
            dsimp only
            have m4 : MhA lt a b (o3 ++ (a.extract k i3).reverse) k j3 := mg3.appA sa k1 fun t ht1 ht2 x ex => take_le O sb ey (by
              have q := k3 t ht1 ht2
              have e := getD_at (a := a) (i := t) y (by omega)
              rw [ex] at e
              cases e
              rw [Nat.zero_add] at q
              exact O.le_of (by simpa [bey] using q))
            have yz : ∀ z, k - 1 < k → a[k - 1]? = some z → lle lt z y := fun z hkk ez => by
              have q := k2 (k - 1) hkk
              have e := getD_at (a := a) (i := k - 1) y (by omega)
              rw [ez] at e
              cases e
              rw [Nat.zero_add] at q
              simpa [bey] using q
            by_cases hk0 : i3 - k > 0
            · rw [if_pos hk0]
              by_cases f1 : k = 0
              · rw [if_pos (by simpa using f1)]
                exact wpS_pure ⟨sm4, .inl ⟨_, _, rfl, doneA m4 f1⟩⟩
              rw [if_neg (by simpa using f1)]
              have la4 : 1 ≤ k := by omega
              have ua4 : k ≤ a.size := by omega
              have hs4 : k + j3 + x3 ≤ p + q := by omega
              have yz : ∀ z, a[k - 1]? = some z → lle lt z y := fun z ez => yz z (by omega) ez
              clear k2 k3
              generalize o3 ++ (a.extract k i3).reverse = o4 at *
              generalize k = i4 at *
              obtain ⟨z, ez, mz, _⟩ := arr_at (a := a) (i := i4 - 1) (by omega)
              have m5 := m4.pushB sb (by omega) ey (take_le O sa ez (yz z ez))
              refine wpS_bind (wpS_elem ey ?_)
              by_cases f3 : j3 - 1 = 1
              · rw [if_pos (by simpa using f3)]
                exact wpS_pure ⟨sm4, .inl ⟨_, _, rfl, first m5 f3⟩⟩
              rw [if_neg (by simpa using f3)]
              refine wpS_bind (wpS_elem ez ?_)
              refine wpS_bind (wpS_gallop (f := fun t => b.getD (0 + t) z) hC (sm4.kind.trans hk) (hA z mz) (gal_f hB z (by omega)) (by omega) (gal_mono O sb (by omega)) fun r r1 r2 r3 => ?_)
              dsimp only
              have m6 : MhA lt a b (o4.push y ++ (b.extract r (j3 - 1)).reverse) i4 r := m5.appB sb r1 fun t ht1 ht2 x ex => take_le O sa ez (by
                have q := r3 t ht1 ht2
                have e := getD_at (a := b) (i := t) z (by omega)
                rw [ex] at e
                cases e
                rw [Nat.zero_add] at q
                exact q)
              have zw : ∀ t x, t < r → b[t]? = some x → lle lt x z := fun t x ht ex => by
                have q := r2 t ht
                have e := getD_at (a := b) (i := t) z (by omega)
                rw [ex] at e
                cases e
                rw [Nat.zero_add] at q
                exact O.le_of q
              by_cases hr0 : j3 - 1 - r > 0
              · rw [if_pos hr0]
                by_cases f4 : r = 1
                · rw [if_pos (by simpa using f4)]
                  exact wpS_pure ⟨sm4, .inl ⟨_, _, rfl, first m6 f4⟩⟩
                rw [if_neg (by simpa using f4)]
                by_cases f6 : r = 0
                · rw [if_pos (by simpa using f6)]
                  exact wpS_pure ⟨sm4, .inl ⟨_, _, rfl, doneB m6 f6⟩⟩
                rw [if_neg (by simpa using f6)]
                refine wpS_bind (wpS_elem ez ?_)
                have m7 := m6.pushA sa (by omega) ez (fun x hx => by obtain ⟨t, ht, ex⟩ := mem_cut0 hx; exact zw t x ht ex)
                by_cases f5 : i4 - 1 = 0
                · rw [if_pos (by simpa using f5)]
                  exact wpS_pure ⟨sm4, .inl ⟨_, _, rfl, doneA m7 f5⟩⟩
                rw [if_neg (by simpa using f5)]
                refine ite_wpS ?_ ?_
                · exact wpS_pure ⟨sm4, .inr ⟨_, _, _, _, _, _, rfl, ⟨m7, by omega, by omega, by omega, by omega⟩, by omega⟩⟩
                · exact wpS_pure ⟨sm4, _, _, _, _, _, _, rfl, ⟨m7, by omega, by omega, by omega, by omega⟩, by omega⟩
              · rw [if_neg hr0]
                refine wpS_bind (wpS_elem ez ?_)
                have m7 := m5.pushA sa (by omega) ez (fun x hx => by obtain ⟨t, ht, ex⟩ := mem_cut0 hx; exact zw t x (by omega) ex)
                by_cases f5 : i4 - 1 = 0
                · rw [if_pos (by simpa using f5)]
                  exact wpS_pure ⟨sm4, .inl ⟨_, _, rfl, doneA m7 f5⟩⟩
                rw [if_neg (by simpa using f5)]
                refine ite_wpS ?_ ?_
                · exact wpS_pure ⟨sm4, .inr ⟨_, _, _, _, _, _, rfl, ⟨m7, by omega, by omega, by omega, by omega⟩, by omega⟩⟩
                · exact wpS_pure ⟨sm4, _, _, _, _, _, _, rfl, ⟨m7, by omega, by omega, by omega, by omega⟩, by omega⟩
            · rw [if_neg hk0]
              have k0 : k = i3 := by omega
              have yz : ∀ z, a[i3 - 1]? = some z → lle lt z y := fun z ez => yz z (by omega) (by rw [k0]; exact ez)
              clear k2 k3 m4
              have m4 := mg3
              have la4 := hi3
              have ua4 := ui3
              have hs4 := hs3
              generalize o3 = o4 at *
              generalize i3 = i4 at *
              obtain ⟨z, ez, mz, _⟩ := arr_at (a := a) (i := i4 - 1) (by omega)
              have m5 := m4.pushB sb (by omega) ey (take_le O sa ez (yz z ez))
              refine wpS_bind (wpS_elem ey ?_)
              by_cases f3 : j3 - 1 = 1
              · rw [if_pos (by simpa using f3)]
                exact wpS_pure ⟨sm4, .inl ⟨_, _, rfl, first m5 f3⟩⟩
              rw [if_neg (by simpa using f3)]
              refine wpS_bind (wpS_elem ez ?_)
              refine wpS_bind (wpS_gallop (f := fun t => b.getD (0 + t) z) hC (sm4.kind.trans hk) (hA z mz) (gal_f hB z (by omega)) (by omega) (gal_mono O sb (by omega)) fun r r1 r2 r3 => ?_)
              dsimp only
              have m6 : MhA lt a b (o4.push y ++ (b.extract r (j3 - 1)).reverse) i4 r := m5.appB sb r1 fun t ht1 ht2 x ex => take_le O sa ez (by
                have q := r3 t ht1 ht2
                have e := getD_at (a := b) (i := t) z (by omega)
                rw [ex] at e
                cases e
                rw [Nat.zero_add] at q
                exact q)
              have zw : ∀ t x, t < r → b[t]? = some x → lle lt x z := fun t x ht ex => by
                have q := r2 t ht
                have e := getD_at (a := b) (i := t) z (by omega)
                rw [ex] at e
                cases e
                rw [Nat.zero_add] at q
                exact O.le_of q
              by_cases hr0 : j3 - 1 - r > 0
              · rw [if_pos hr0]
                by_cases f4 : r = 1
                · rw [if_pos (by simpa using f4)]
                  exact wpS_pure ⟨sm4, .inl ⟨_, _, rfl, first m6 f4⟩⟩
                rw [if_neg (by simpa using f4)]
                by_cases f6 : r = 0
                · rw [if_pos (by simpa using f6)]
                  exact wpS_pure ⟨sm4, .inl ⟨_, _, rfl, doneB m6 f6⟩⟩
                rw [if_neg (by simpa using f6)]
                refine wpS_bind (wpS_elem ez ?_)
                have m7 := m6.pushA sa (by omega) ez (fun x hx => by obtain ⟨t, ht, ex⟩ := mem_cut0 hx; exact zw t x ht ex)
                by_cases f5 : i4 - 1 = 0
                · rw [if_pos (by simpa using f5)]
                  exact wpS_pure ⟨sm4, .inl ⟨_, _, rfl, doneA m7 f5⟩⟩
                rw [if_neg (by simpa using f5)]
                refine ite_wpS ?_ ?_
                · exact wpS_pure ⟨sm4, .inr ⟨_, _, _, _, _, _, rfl, ⟨m7, by omega, by omega, by omega, by omega⟩, by omega⟩⟩
                · exact wpS_pure ⟨sm4, _, _, _, _, _, _, rfl, ⟨m7, by omega, by omega, by omega, by omega⟩, by omega⟩
              · rw [if_neg hr0]
                refine wpS_bind (wpS_elem ez ?_)
                have m7 := m5.pushA sa (by omega) ez (fun x hx => by obtain ⟨t, ht, ex⟩ := mem_cut0 hx; exact zw t x (by omega) ex)
                by_cases f5 : i4 - 1 = 0
                · rw [if_pos (by simpa using f5)]
                  exact wpS_pure ⟨sm4, .inl ⟨_, _, rfl, doneA m7 f5⟩⟩
                rw [if_neg (by simpa using f5)]
                refine ite_wpS ?_ ?_
                · exact wpS_pure ⟨sm4, .inr ⟨_, _, _, _, _, _, rfl, ⟨m7, by omega, by omega, by omega, by omega⟩, by omega⟩⟩
                · exact wpS_pure ⟨sm4, _, _, _, _, _, _, rfl, ⟨m7, by omega, by omega, by omega, by omega⟩, by omega⟩
        · rintro c st2 ⟨sm2, i, j, o, g, u, v, rfl, i2, hs2⟩
          have := i2.la
          omega
        · rintro c st3 ⟨sm3, ⟨m, r, rfl, hr⟩ | ⟨i, j, o, g, u, v, rfl, i3, hs3⟩⟩
          · exact wpS_pure ⟨sm3, _, _, rfl, hr⟩
          · dsimp only
            exact wpS_bind (wpS_setG sm3 fun st4 sm4 => wpS_pure ⟨sm4, _, _, _, _, rfl, i3, by omega⟩)
  · rintro c st1 ⟨sm1, ia, ib, out, mg, rfl, i1, hs1⟩
    have := i1.la
    have := i1.lb
    omega
  · rintro c st1 ⟨sm1, m, r, rfl, hr⟩
    exact wpS_pure (h _ _ sm1 hr.1 hr.2)
end
end TT
namespace TT
open PySem PySem.W PyProof.Rows
section
variable {prog : Program} {w : World} {A : Around} {E : Value → Shared → Prop} {s : Shared} {κ : SortKind} {a₀ : List Keyed} {lt : Keyed → Keyed → Bool}
theorem wpS_set {σ : Type} {M : Model} {x : σ} {Q : PUnit → σ → Prop} {st : σ} (h : Q ⟨⟩ x) : wpS M A E s (set x : StateT σ Sem PUnit) Q st := by
  unfold wpS; rw [StateT.run_set]; exact wpAny_pure ⟨rfl, h⟩
theorem wpS_setS {x : SortSt} {Q : PUnit → SortSt → Prop} {st : SortSt} (h : ∀ st1, Sm x st1 → Q ⟨⟩ st1) : wpS (model prog w) A E s (set x : StateT SortSt Sem PUnit) Q st := wpS_set (h x (Sm.refl x))
theorem bey_mono (O : LOrd lt) {left : Bool} {key : Keyed} {n : Nat} {f : Nat → Keyed} (hle : ∀ t u, t ≤ u → u < n → lle lt (f t) (f u)) : ∀ t u, t ≤ u → u < n → bey lt left key (f u) = true → bey lt left key (f t) = true := fun t u h1 h2 e => by
  have le := hle t u h1 h2
  cases left with
  | true =>
    rcases O.neg _ (f t) _ e with q | q
    · rw [le] at q; cases q
    · exact q
  | false =>
    have e' : lt key (f u) = false := by simpa [bey] using e
    have : lt key (f t) = false := O.le_tr le e'
    show (!lt key (f t)) = true
    rw [this]
    rfl
theorem put_fold (k : Nat) : ∀ (l : List Keyed) (j : Nat) (X : Array Keyed), k + j + l.length ≤ X.size → ((l.zipIdx j).foldl (fun a x => a.setIfInBounds (k + x.2) x.1) X).toList = X.toList.take (k + j) ++ (l ++ X.toList.drop (k + j + l.length))
  | [], j, X, _ => by
    show X.toList = _
    rw [List.nil_append]
    exact (List.take_append_drop _ _).symm
  | x :: l, j, X, hl => by
    rw [List.length_cons] at hl
    rw [List.zipIdx_cons, List.foldl_cons, put_fold k l (j + 1) _ (by rw [Array.size_setIfInBounds]; omega), Array.toList_setIfInBounds]
    have hlt : k + j < X.toList.length := by rw [Array.length_toList]; omega
    rw [show k + (j + 1) = k + j + 1 by omega, List.take_succ_eq_append_getElem (by rw [List.length_set]; exact hlt), List.take_set_of_le (Nat.le_refl _), List.getElem_set_self, List.drop_set_of_lt (by omega), List.length_cons,
      show k + j + 1 + l.length = k + j + (l.length + 1) by omega, List.append_assoc]
    rfl
theorem mem_dropI {X : Array Keyed} {n : Nat} {x : Keyed} (h : x ∈ X.toList.drop n) : ∃ p, n ≤ p ∧ X[p]? = some x := by
  obtain ⟨j, hj, e⟩ := List.mem_iff_getElem.mp h
  rw [List.length_drop, Array.length_toList] at hj
  refine ⟨n + j, by omega, ?_⟩
  rw [← e, List.getElem_drop]
  have : n + j < X.size := by omega
  simp [this]
theorem wpS_mergeAt {st : SortSt} {n1 n2 pw : Nat} {Q : Bool → SortSt → Prop} (O : LOrd lt) (hC : CmpS prog w A κ a₀ lt s) (hk : kindOf st = κ) (hf : failedOf st = none) (hperm : (arrOf st).toList.Perm a₀)
    (hp : pendingOf st = #[(0, n1, pw), (n1, n2, 0)]) (hn : n1 + n2 = a₀.length) (h1 : 1 ≤ n1) (h2 : 1 ≤ n2) (s1 : Srt lt ((arrOf st).toList.take n1)) (s2 : Srt lt ((arrOf st).toList.drop n1))
    (h : ∀ st', (arrOf st').toList.Perm a₀ → kindOf st' = κ → failedOf st' = none → pendingOf st' = #[(0, n1 + n2, pw)] → Srt lt (arrOf st').toList → Q true st') :
    wpS (model prog w) A E s (mergeAt' 0) Q st := by
  refine wpS_bind (wpS_get ?_)
  have hsz : (arrOf st).size = n1 + n2 := by rw [hn, ← Array.length_toList]; exact hperm.length_eq
  have hp' : (sortPriv% PySem.Builtin.SortState.pending) st = #[(0, n1, pw), (n1, n2, 0)] := hp
  rw [hp']
  refine wpS_bind (wpS_setS fun st1 sm1 => ?_)
  have q1 : arrOf st1 = arrOf st := sm1.arr
  have q2 : kindOf st1 = κ := sm1.kind.trans hk
  have q3 : failedOf st1 = none := sm1.fail.trans hf
  have q4 : pendingOf st1 = #[(0, n1 + n2, pw)] := sm1.pend.trans (by show (#[(0, n1, pw), (n1, n2, 0)].setIfInBounds 0 (0, n1 + n2, pw)).eraseIdxIfInBounds (0 + 1) = _; simp [Array.eraseIdxIfInBounds, Array.setIfInBounds])
  clear sm1
  dsimp only
  obtain ⟨X, hX⟩ : ∃ X, arrOf st = X := ⟨_, rfl⟩
  have hX' : (sortPriv% PySem.Builtin.SortState.a) st = X := hX
  rw [hX']
  rw [hX] at hperm s1 s2 hsz q1
  clear hX hX'
  have ha : ∀ p q x y, p ≤ q → q < n1 → X[p]? = some x → X[q]? = some y → lle lt x y := fun p q x y h1 h2 hx hy => by
    refine srt_at O (a := ⟨X.toList.take n1⟩) s1 h1 ?_ ?_
    · simpa [List.getElem?_take, show p < n1 by omega] using hx
    · simpa [List.getElem?_take, h2] using hy
  have hb : ∀ p q x y, n1 ≤ p → p ≤ q → X[p]? = some x → X[q]? = some y → lle lt x y := fun p q x y h0 h1 hx hy => by
    refine srt_at O (a := ⟨X.toList.drop n1⟩) (p := p - n1) (q := q - n1) s2 (by omega) ?_ ?_
    · simpa [List.getElem?_drop, show n1 + (p - n1) = p by omega] using hx
    · simpa [List.getElem?_drop, show n1 + (q - n1) = q by omega] using hy
  have hmem : ∀ x ∈ X.toList, x ∈ a₀ := fun x hx => hperm.mem_iff.mp hx
  obtain ⟨b0, eb0, mb0, _⟩ := arr_at (a := X) (i := n1) (by omega)
  refine wpS_bind (wpS_elem eb0 ?_)
  refine wpS_bind (wpS_gallop (f := fun t => X.getD (0 + t) b0) hC q2 (hmem b0 mb0) (gal_f (i := 0) (n := n1) hmem b0 (by omega)) (by omega) (bey_mono (n := n1) O fun t u a b => ha (0 + t) (0 + u) _ _ (by omega) (by omega) (getD_at b0 (by omega)) (getD_at b0 (by omega))) fun k k1 k2 k3 => ?_)
  have hk1 : ∀ p x, p < k → X[p]? = some x → lle lt x b0 := fun p x hp ex => by
    have q := k2 p hp
    have e := getD_at (a := X) (i := p) b0 (by omega)
    rw [ex] at e
    cases e
    rw [Nat.zero_add] at q
    simpa [bey] using q
  have hk2 : ∀ p x, k ≤ p → p < n1 → X[p]? = some x → lt b0 x = true := fun p x hp hp2 ex => by
    have q := k3 p hp hp2
    have e := getD_at (a := X) (i := p) b0 (by omega)
    rw [ex] at e
    cases e
    rw [Nat.zero_add] at q
    simpa [bey] using q
  clear k2 k3
  have whole : (∀ x y, x ∈ X.toList.take n1 → y ∈ X.toList.drop n1 → lle lt x y) → wpS (model prog w) A E s (pure true) Q st1 := fun hc => by
    refine wpS_pure (h st1 (by rw [q1]; exact hperm) q2 q3 q4 ?_)
    rw [q1, ← List.take_append_drop n1 X.toList]
    exact List.pairwise_append.mpr ⟨s1, s2, fun x hx y hy => hc x y hx hy⟩
  dsimp only
  by_cases e1 : n1 - k = 0
  · rw [if_pos (by simpa using e1)]
    refine whole fun x y hx hy => ?_
    obtain ⟨p, hp, ex⟩ := mem_cut0 hx
    obtain ⟨q, hq, ey⟩ := mem_dropI hy
    exact O.le_tr (hk1 p x (by omega) ex) (hb n1 q _ _ (Nat.le_refl _) hq eb0 ey)
  rw [if_neg (by simpa using e1)]
  obtain ⟨al, eal, mal, _⟩ := arr_at (a := X) (i := 0 + k + (n1 - k) - 1) (by omega)
  refine wpS_bind (wpS_elem eal ?_)
  rw [show 0 + k + (n1 - k) - 1 = n1 - 1 by omega] at eal
  refine wpS_bind (wpS_gallop (f := fun t => X.getD (n1 + t) b0) hC q2 (hmem al mal) (gal_f (i := n1) (n := n2) hmem b0 (by omega)) (by omega) (bey_mono (n := n2) O fun t u a b => hb (n1 + t) (n1 + u) _ _ (by omega) (by omega) (getD_at b0 (by omega)) (getD_at b0 (by omega))) fun nb r1 r2 r3 => ?_)
  have hr1 : ∀ p x, n1 ≤ p → p < n1 + nb → X[p]? = some x → lt x al = true := fun p x hp hp2 ex => by
    have q := r2 (p - n1) (by omega)
    have e := getD_at (a := X) (i := p) b0 (by omega)
    rw [ex] at e
    cases e
    rw [show n1 + (p - n1) = p by omega] at q
    exact q
  have hr2 : ∀ p x, n1 + nb ≤ p → X[p]? = some x → lle lt al x := fun p x hp ex => by
    have hlt : p < X.size := by
      rcases Nat.lt_or_ge p X.size with q | q
      · exact q
      · rw [Array.getElem?_eq_none q] at ex; cases ex
    have q := r3 (p - n1) (by omega) (by omega)
    have e := getD_at (a := X) (i := p) b0 hlt
    rw [ex] at e
    cases e
    rw [show n1 + (p - n1) = p by omega] at q
    exact q
  clear r2 r3
  dsimp only
  by_cases e2 : nb = 0
  · rw [if_pos (by simpa using e2)]
    refine whole fun x y hx hy => ?_
    obtain ⟨p, hp, ex⟩ := mem_cut0 hx
    obtain ⟨q, hq, ey⟩ := mem_dropI hy
    exact O.le_tr (ha p (n1 - 1) x al (by omega) (by omega) ex eal) (hr2 q y (by omega) ey)
  rw [if_neg (by simpa using e2)]
  -- the two parts
  have ea : (X.extract (0 + k) n1).toList = (X.toList.drop k).take (n1 - k) := by rw [Nat.zero_add, Array.toList_extract, List.extract_eq_take_drop]
  have eb : (X.extract n1 (n1 + nb)).toList = (X.toList.drop n1).take nb := by rw [Array.toList_extract, List.extract_eq_take_drop, show n1 + nb - n1 = nb by omega]
  have ma : ∀ x, x ∈ (X.extract (0 + k) n1).toList → ∃ p, k ≤ p ∧ p < n1 ∧ X[p]? = some x := fun x hx => by
    rw [ea] at hx
    obtain ⟨j, hj, e⟩ := mem_chunk hx
    exact ⟨k + j, by omega, by omega, e⟩
  have mb : ∀ x, x ∈ (X.extract n1 (n1 + nb)).toList → ∃ p, n1 ≤ p ∧ p < n1 + nb ∧ X[p]? = some x := fun x hx => by
    rw [eb] at hx
    obtain ⟨j, hj, e⟩ := mem_chunk hx
    exact ⟨n1 + j, by omega, by omega, e⟩
  have sea : (X.extract (0 + k) n1).size = n1 - k := by rw [Array.size_extract]; omega
  have seb : (X.extract n1 (n1 + nb)).size = nb := by rw [Array.size_extract]; omega
  have ssa : Srt lt (X.extract (0 + k) n1).toList := by
    rw [ea, ← List.drop_take]
    exact s1.sublist (List.drop_sublist _ _)
  have ssb : Srt lt (X.extract n1 (n1 + nb)).toList := by
    rw [eb]
    exact s2.sublist (List.take_sublist _ _)
  have hA : ∀ x ∈ (X.extract (0 + k) n1).toList, x ∈ a₀ := fun x hx => by
    obtain ⟨p, _, _, e⟩ := ma x hx
    exact hmem x (Array.mem_toList_iff.mpr (Array.mem_of_getElem? e))
  have hB : ∀ x ∈ (X.extract n1 (n1 + nb)).toList, x ∈ a₀ := fun x hx => by
    obtain ⟨p, _, _, e⟩ := mb x hx
    exact hmem x (Array.mem_toList_iff.mpr (Array.mem_of_getElem? e))
  have hfst : ∀ x, (X.extract n1 (n1 + nb))[0]? = some x → ∀ z ∈ (X.extract (0 + k) n1).toList, lle lt x z := fun x ex z hz => by
    obtain ⟨p, p1, p2, e⟩ := ma z hz
    rw [Array.getElem?_extract, if_pos (by omega), Nat.add_zero, eb0] at ex
    cases ex
    exact O.le_of (hk2 p z p1 p2 e)
  have hlst : ∀ x ∈ (X.extract n1 (n1 + nb)).toList, ∀ z, (X.extract (0 + k) n1)[(X.extract (0 + k) n1).size - 1]? = some z → lle lt x z := fun x hx z ez => by
    obtain ⟨p, p1, p2, e⟩ := mb x hx
    rw [sea, Array.getElem?_extract, if_pos (by omega), show 0 + k + (n1 - k - 1) = n1 - 1 by omega, eal] at ez
    cases ez
    exact O.le_of (hr1 p x p1 p2 e)
  have fin : ∀ (m : Array Keyed) (st' : SortSt), Sm st1 st' → Srt lt m.toList → m.toList.Perm ((X.extract (0 + k) n1).toList ++ (X.extract n1 (n1 + nb)).toList) →
      ∀ st2, arrOf st2 = m.toList.zipIdx.foldl (fun a x => a.setIfInBounds (0 + k + x.2) x.1) (arrOf st') → kindOf st2 = kindOf st' → failedOf st2 = failedOf st' → pendingOf st2 = pendingOf st' → Q true st2 := fun m st' sm sm1 sm2 st2 w1 w2 w3 w4 => by
    have hml : m.toList.length = n1 - k + nb := by rw [sm2.length_eq, List.length_append, Array.length_toList, Array.length_toList, sea, seb]
    have earr : (arrOf st2).toList = X.toList.take k ++ (m.toList ++ X.toList.drop (n1 + nb)) := by
      rw [w1, sm.arr, q1, put_fold (0 + k) m.toList 0 X (by omega), hml]
      rw [show 0 + k + 0 = k by omega, show k + (n1 - k + nb) = n1 + nb by omega]
    have eX : X.toList = X.toList.take k ++ (((X.extract (0 + k) n1).toList ++ (X.extract n1 (n1 + nb)).toList) ++ X.toList.drop (n1 + nb)) := by
      rw [ea, eb, List.append_assoc, ← List.drop_drop, List.take_append_drop]
      have : (X.toList.drop k).take (n1 - k) ++ X.toList.drop n1 = X.toList.drop k := by
        have e := List.take_append_drop (n1 - k) (X.toList.drop k)
        rw [List.drop_drop, show k + (n1 - k) = n1 by omega] at e
        exact e
      rw [this, List.take_append_drop]
    refine h st2 ?_ (w2.trans (sm.kind.trans q2)) (w3.trans (sm.fail.trans q3)) (w4.trans (sm.pend.trans q4)) ?_
    · refine List.Perm.trans ?_ hperm
      rw [earr]
      refine List.Perm.trans ?_ (List.Perm.of_eq eX.symm)
      exact (sm2.append_right _).append_left _
    · rw [earr]
      have mm : ∀ y ∈ m.toList, (∃ p, k ≤ p ∧ p < n1 ∧ X[p]? = some y) ∨ ∃ p, n1 ≤ p ∧ p < n1 + nb ∧ X[p]? = some y := fun y hy => by
        rcases List.mem_append.mp (sm2.mem_iff.mp hy) with z | z
        · exact .inl (ma y z)
        · exact .inr (mb y z)
      have st1' : Srt lt (X.toList.take k) := by
        have e : X.toList.take k = (X.toList.take n1).take k := by rw [List.take_take, Nat.min_eq_left k1]
        rw [e]; exact s1.sublist (List.take_sublist _ _)
      have st2' : Srt lt (X.toList.drop (n1 + nb)) := by rw [← List.drop_drop]; exact s2.sublist (List.drop_sublist _ _)
      refine List.pairwise_append.mpr ⟨st1', List.pairwise_append.mpr ⟨sm1, st2', fun x hx y hy => ?_⟩, fun x hx y hy => ?_⟩
      · obtain ⟨q, hq, ey⟩ := mem_dropI hy
        rcases mm x hx with ⟨p, p1, p2, ex⟩ | ⟨p, p1, p2, ex⟩
        · exact O.le_tr (ha p (n1 - 1) x al (by omega) (by omega) ex eal) (hr2 q y hq ey)
        · exact hb p q x y p1 (by omega) ex ey
      · obtain ⟨p, hp, ex⟩ := mem_cut0 hx
        rcases List.mem_append.mp hy with hy | hy
        · rcases mm y hy with ⟨q, p1, p2, ey⟩ | ⟨q, p1, p2, ey⟩
          · exact ha p q x y (by omega) p2 ex ey
          · exact O.le_tr (hk1 p x hp ex) (hb n1 q b0 y (Nat.le_refl _) p1 eb0 ey)
        · obtain ⟨q, hq, ey⟩ := mem_dropI hy
          exact O.le_tr (hk1 p x hp ex) (hb n1 q b0 y (Nat.le_refl _) (by omega) eb0 ey)
  have q3' : ∀ {st' : SortSt}, Sm st1 st' → failedOf st' = none := fun sm => sm.fail.trans q3
  refine ite_wpS ?_ ?_
  · refine wpS_bind (wpS_mergeLo O hC q2 hA hB ssa ssb (by omega) (by omega) hfst hlst fun m st' sm m1 m2 => ?_)
    refine wpS_bind (wpS_modify (wpS_bind (wpS_get ?_)))
    have e3 : (failedOf st').isNone = true := by rw [q3' sm]; rfl
    show wpS (model prog w) A E s (pure (failedOf st').isNone) Q _
    rw [e3]
    exact wpS_pure (fin m st' sm m1 m2 _ rfl rfl rfl rfl)
  · refine wpS_bind (wpS_mergeHi O hC q2 hA hB ssa ssb (by omega) (by omega) hfst hlst fun m st' sm m1 m2 => ?_)
    refine wpS_bind (wpS_modify (wpS_bind (wpS_get ?_)))
    have e3 : (failedOf st').isNone = true := by rw [q3' sm]; rfl
    show wpS (model prog w) A E s (pure (failedOf st').isNone) Q _
    rw [e3]
    exact wpS_pure (fin m st' sm m1 m2 _ rfl rfl rfl rfl)
end
end TT
namespace TT
open PySem PySem.W PyProof.Rows
section
variable {prog : Program} {w : World} {A : Around} {E : Value → Shared → Prop} {s : Shared} {κ : SortKind} {a₀ : List Keyed} {lt : Keyed → Keyed → Bool}
theorem seg_take {X : Array Keyed} {n : Nat} (h : ∀ i j, i ≤ j → j < n → lle lt (pk X (0 + i)) (pk X (0 + j))) : Srt lt (X.toList.take n) := by
  rw [Srt, List.pairwise_iff_getElem]
  intro i j hi hj hij
  rw [List.length_take, Array.length_toList] at hi hj
  have := h i j (by omega) (by omega)
  rw [Nat.zero_add, Nat.zero_add] at this
  have e : ∀ k, (hk : k < X.size) → pk X k = X[k] := fun k hk => by simp [Array.getD, hk]
  rw [e i (by omega), e j (by omega)] at this
  rw [List.getElem_take, List.getElem_take]
  simpa using this
theorem seg_drop {X : Array Keyed} {lo n : Nat} (hn : X.size ≤ lo + n) (h : ∀ i j, i ≤ j → j < n → lle lt (pk X (lo + i)) (pk X (lo + j))) : Srt lt (X.toList.drop lo) := by
  rw [Srt, List.pairwise_iff_getElem]
  intro i j hi hj hij
  rw [List.length_drop, Array.length_toList] at hi hj
  have := h i j (by omega) (by omega)
  have e : ∀ k, (hk : k < X.size) → pk X k = X[k] := fun k hk => by simp [Array.getD, hk]
  rw [e (lo + i) (by omega), e (lo + j) (by omega)] at this
  rw [List.getElem_drop, List.getElem_drop]
  simpa using this
/-- one run of n items, behind it what is not yet looked at -/
structure Run1 (lt : Keyed → Keyed → Bool) (a₀ : List Keyed) (κ : SortKind) (n : Nat) (st : SortSt) : Prop where
  perm : (arrOf st).toList.Perm a₀
  kind : kindOf st = κ
  fail : failedOf st = none
  pend : pendingOf st = #[(0, n, 0)]
  srt : Srt lt ((arrOf st).toList.take n)
structure Run2 (lt : Keyed → Keyed → Bool) (a₀ : List Keyed) (κ : SortKind) (n m p : Nat) (st : SortSt) : Prop where
  perm : (arrOf st).toList.Perm a₀
  kind : kindOf st = κ
  fail : failedOf st = none
  pend : pendingOf st = #[(0, n, p), (n, m, 0)]
  s1 : Srt lt ((arrOf st).toList.take n)
  s2 : Srt lt ((arrOf st).toList.drop n)
theorem wpS_runs65 {st : SortSt} {Q : Unit → SortSt → Prop} (O : LOrd lt) (hC : CmpS prog w A κ a₀ lt s) (hk : kindOf st = κ) (hf : failedOf st = none) (hp : pendingOf st = #[]) (hperm : (arrOf st).toList.Perm a₀)
    (h64 : 64 ≤ a₀.length) (h65 : a₀.length ≤ 65) (h : ∀ st', (arrOf st').toList.Perm a₀ → failedOf st' = none → Srt lt (arrOf st').toList → Q () st') : wpS (model prog w) A E s sortRuns' Q st := by
  rw [sortRuns'_eq]
  refine wpS_bind (wpS_get ?_)
  dsimp only
  have hsz : (arrOf st).size = a₀.length := by rw [← Array.length_toList]; exact hperm.length_eq
  rw [hsz]
  obtain ⟨mr, hmr⟩ : ∃ mr, minRun' a₀.length a₀.length 0 = mr := ⟨_, rfl⟩
  have hmr1 : mr ≤ a₀.length ∧ a₀.length ≤ 2 * mr ∧ 1 ≤ mr := by
    rcases (show a₀.length = 64 ∨ a₀.length = 65 by omega) with e | e
    · rw [e] at hmr
      have : minRun' 64 64 0 = 32 := rfl
      omega
    · rw [e] at hmr
      have : minRun' 65 65 0 = 33 := rfl
      omega
  rw [hmr]
  generalize hL : a₀.length = L at *
  refine wpS_bind (wpS_mono (wpS_forRange
    (I := fun x c st' => (x = 0 ∧ c = (none, 0) ∧ SB a₀ κ 0 [] #[] st') ∨ (∃ n, x = 1 ∧ c = (none, n) ∧ mr ≤ n ∧ n < L ∧ Run1 lt a₀ κ n st') ∨ (c = (none, L) ∧ (Run1 lt a₀ κ L st' ∨ ∃ n m p, 1 ≤ n ∧ 1 ≤ m ∧ n + m = L ∧ Run2 lt a₀ κ n m p st')))
    (Q := fun c st' => c = (none, L) ∧ (Run1 lt a₀ κ L st' ∨ ∃ n m p, 1 ≤ n ∧ 1 ≤ m ∧ n + m = L ∧ Run2 lt a₀ κ n m p st')) ?_ ?_ (.inl ⟨rfl, rfl, ⟨hperm, hk, hf, rfl, hp⟩⟩)) ?_)
  · rintro x c st1 _ hx (⟨rfl, rfl, hB⟩ | ⟨n, rfl, rfl, hn1, hn2, R1⟩ | ⟨rfl, hR⟩)
    · dsimp only
      rw [if_neg (by omega)]
      refine wpS_bind (wpS_count O hC hB (by omega) (by omega) fun m st2 hB2 m1 m2 hs2 => ?_)
      have first : ∀ n st3, SB a₀ κ 0 [] #[] st3 → mr ≤ n → n ≤ L → SegF lt (fnS 0 st3) n → Run1 lt a₀ κ n (setPending st3 ((pendingOf st3).push (0, n, 0))) := fun n st3 hB3 _ _ hs3 =>
        ⟨hB3.perm, hB3.kind, hB3.fail, by show (pendingOf st3).push _ = _; rw [hB3.pend]; rfl, seg_take hs3⟩
      have put : ∀ n st', mr ≤ n → n ≤ L → Run1 lt a₀ κ n st' → ((0 + 1 = 0 ∧ ((none : Option Unit), 0 + n) = (none, 0) ∧ SB a₀ κ 0 [] #[] st') ∨ (∃ n', 0 + 1 = 1 ∧ ((none : Option Unit), 0 + n) = (none, n') ∧ mr ≤ n' ∧ n' < L ∧ Run1 lt a₀ κ n' st') ∨
          (((none : Option Unit), 0 + n) = (none, L) ∧ (Run1 lt a₀ κ L st' ∨ ∃ n m p, 1 ≤ n ∧ 1 ≤ m ∧ n + m = L ∧ Run2 lt a₀ κ n m p st'))) := fun n st' h1 h2 R => by
        by_cases e : n = L
        · subst e
          exact .inr (.inr ⟨by rw [Nat.zero_add], .inl R⟩)
        · exact .inr (.inl ⟨n, rfl, by rw [Nat.zero_add], h1, by omega, R⟩)
      dsimp only
      by_cases hm : m < mr
      · rw [if_pos hm]
        refine wpS_bind (wpS_lift (wpAny_rule ⟨rfl, ?_⟩))
        refine wpS_bind (wpS_bins O hC hB2 (by omega) (by omega) hs2 fun st3 hB3 hs3 => ?_)
        rw [if_neg (by simp)]
        refine wpS_bind (wpS_get ?_)
        have hb : (pendingOf st3).back? = none := by rw [hB3.pend]; rfl
        rw [hb]
        dsimp only
        exact wpS_bind (wpS_modify (wpS_pure (put _ _ (by omega) (by omega) (first _ st3 hB3 (by omega) (by omega) hs3))))
      · rw [if_neg hm]
        refine wpS_bind (wpS_get ?_)
        have hb : (pendingOf st2).back? = none := by rw [hB2.pend]; rfl
        rw [hb]
        dsimp only
        exact wpS_bind (wpS_modify (wpS_pure (put _ _ (by omega) (by omega) (first _ st2 hB2 (by omega) (by omega) hs2))))
    · dsimp only
      rw [if_neg (by omega)]
      have hB : SB a₀ κ n ((arrOf st1).toList.take n) #[(0, n, 0)] st1 := ⟨R1.perm, R1.kind, R1.fail, rfl, R1.pend⟩
      have second : ∀ st3, SB a₀ κ n ((arrOf st1).toList.take n) #[(0, n, 0)] st3 → SegF lt (fnS n st3) (L - n) → ∀ pw, Run2 lt a₀ κ n (L - n) pw
          (setPending (setPending st3 ((pendingOf st3).modify ((pendingOf st3).size - 1) fun x => (x.1, x.2.1, pw))) (((pendingOf st3).modify ((pendingOf st3).size - 1) fun x => (x.1, x.2.1, pw)).push (n, L - n, 0))) := fun st3 hB3 hs3 pw =>
        ⟨hB3.perm, hB3.kind, hB3.fail, by
          show ((pendingOf st3).modify ((pendingOf st3).size - 1) fun x => (x.1, x.2.1, pw)).push (n, L - n, 0) = _
          rw [hB3.pend]
          rfl, by
          show Srt lt ((arrOf st3).toList.take n)
          rw [hB3.pre]; exact R1.srt, seg_drop (by rw [hB3.size]; omega) hs3⟩
      refine wpS_bind (wpS_count O hC hB (by omega) (by omega) fun m st2 hB2 m1 m2 hs2 => ?_)
      dsimp only
      by_cases hm : m < mr
      · rw [if_pos hm, show min (L - n) mr = L - n by omega]
        refine wpS_bind (wpS_lift (wpAny_rule ⟨rfl, ?_⟩))
        refine wpS_bind (wpS_bins O hC hB2 (by omega) (by omega) hs2 fun st3 hB3 hs3 => ?_)
        rw [if_neg (by simp)]
        refine wpS_bind (wpS_get ?_)
        have hb : (pendingOf st3).back? = some (0, n, 0) := by rw [hB3.pend]; rfl
        rw [hb]
        dsimp only
        refine wpS_bind (wpS_mono (wpS_forRange (I := fun x c st' => c = (none, ()) ∧ st' = st3) (Q := fun c st' => c = (none, ()) ∧ st' = st3) ?_ (fun _ _ q => q) ⟨rfl, rfl⟩) ?_)
        · rintro x c st4 _ _ ⟨rfl, rfl⟩
          refine wpS_bind (wpS_get ?_)
          rw [if_neg (by rw [hB3.pend]; simp)]
          exact wpS_pure ⟨rfl, rfl⟩
        · rintro c st4 ⟨rfl, rfl⟩
          dsimp only
          refine wpS_bind (wpS_modify (wpS_bind (wpS_modify (wpS_pure ?_))))
          exact .inr (.inr ⟨by rw [show n + (L - n) = L by omega], .inr ⟨n, L - n, _, by omega, by omega, by omega, second st4 hB3 hs3 _⟩⟩)
      · rw [if_neg hm]
        have em : m = L - n := by omega
        subst em
        have hB3 := hB2
        have hs3 := hs2
        refine wpS_bind (wpS_get ?_)
        have hb : (pendingOf st2).back? = some (0, n, 0) := by rw [hB3.pend]; rfl
        rw [hb]
        dsimp only
        refine wpS_bind (wpS_mono (wpS_forRange (I := fun x c st' => c = (none, ()) ∧ st' = st2) (Q := fun c st' => c = (none, ()) ∧ st' = st2) ?_ (fun _ _ q => q) ⟨rfl, rfl⟩) ?_)
        · rintro x c st4 _ _ ⟨rfl, rfl⟩
          refine wpS_bind (wpS_get ?_)
          rw [if_neg (by rw [hB3.pend]; simp)]
          exact wpS_pure ⟨rfl, rfl⟩
        · rintro c st4 ⟨rfl, rfl⟩
          dsimp only
          refine wpS_bind (wpS_modify (wpS_bind (wpS_modify (wpS_pure ?_))))
          exact .inr (.inr ⟨by rw [show n + (L - n) = L by omega], .inr ⟨n, L - n, _, by omega, by omega, by omega, second st4 hB3 hs3 _⟩⟩)
    · dsimp only
      rw [if_pos (Nat.le_refl _)]
      exact wpS_pure ⟨rfl, hR⟩
  · rintro c st1 (⟨hx, _, _⟩ | ⟨n, hx, _⟩ | ⟨rfl, hR⟩)
    · omega
    · omega
    · exact ⟨rfl, hR⟩
  · rintro c st1 ⟨rfl, hR⟩
    dsimp only
    refine wpS_bind (wpS_mono (wpS_forRange (I := fun x c st' => c = (none, ()) ∧ ((x = 0 ∧ ∃ n m p, 1 ≤ n ∧ 1 ≤ m ∧ n + m = L ∧ Run2 lt a₀ κ n m p st') ∨ ((pendingOf st').size ≤ 1 ∧ (arrOf st').toList.Perm a₀ ∧ failedOf st' = none ∧ Srt lt (arrOf st').toList)))
      (Q := fun c st' => c = (none, ()) ∧ (arrOf st').toList.Perm a₀ ∧ failedOf st' = none ∧ Srt lt (arrOf st').toList) ?_ ?_ ⟨rfl, ?_⟩) ?_)
    · rintro x c st2 _ hx ⟨rfl, ⟨rfl, n, m, p, hn, hm, hnm, R2⟩ | ⟨hp2, hperm2, hf2, hs2⟩⟩
      · refine wpS_bind (wpS_get ?_)
        rw [if_neg (by rw [R2.pend]; simp), R2.pend]
        show wpS (model prog w) A E s (mergeAt' 0 >>= _) _ _
        refine wpS_bind (wpS_mergeAt O hC R2.kind R2.fail R2.perm R2.pend (by omega) hn hm R2.s1 R2.s2 fun st3 hperm3 _ hf3 hp3 hs3 => ?_)
        rw [if_neg (by simp)]
        exact wpS_pure ⟨rfl, .inr ⟨by rw [hp3]; exact Nat.le_refl 1, hperm3, hf3, hs3⟩⟩
      · refine wpS_bind (wpS_get ?_)
        rw [if_pos hp2]
        exact wpS_pure ⟨rfl, hperm2, hf2, hs2⟩
    · rintro c st2 ⟨rfl, ⟨hx, _⟩ | ⟨_, hq⟩⟩
      · omega
      · exact ⟨rfl, hq⟩
    · rcases hR with R1 | hR
      · refine .inr ⟨by rw [R1.pend]; exact Nat.le_refl 1, R1.perm, R1.fail, ?_⟩
        have hs := R1.srt
        rw [List.take_of_length_le (by rw [R1.perm.length_eq]; omega)] at hs
        exact hs
      · exact .inl ⟨rfl, hR⟩
    · rintro c st2 ⟨rfl, h1, h2, h3⟩
      exact wpS_pure (h st2 h1 h2 h3)
end
end TT
namespace TT
open PySem PySem.W PySem.Calls PyProof.Rows
theorem perm_pick {α β : Type} (f : α → β) {l m : List β} (h : l.Perm m) : ∀ r : List α, m = r.map f → ∃ r' : List α, r'.Perm r ∧ l = r'.map f := by
  induction h with
  | nil => intro r e; exact ⟨r, List.Perm.refl _, e⟩
  | cons x _ ih =>
    intro r e
    cases r with
    | nil => cases e
    | cons y r =>
      obtain ⟨e1, e2⟩ := List.cons.inj e
      obtain ⟨r', hp, er⟩ := ih r e2
      exact ⟨y :: r', hp.cons y, by rw [List.map_cons, ← er, e1]⟩
  | swap x y l =>
    intro r e
    match r, e with
    | a :: b :: r, e =>
      obtain ⟨e1, e2⟩ := List.cons.inj e
      obtain ⟨e3, e4⟩ := List.cons.inj e2
      exact ⟨b :: a :: r, List.Perm.swap _ _ _, by rw [List.map_cons, List.map_cons, e1, e3, e4]⟩
  | trans _ _ ih1 ih2 =>
    intro r e
    obtain ⟨r2, p2, e2⟩ := ih2 r e
    obtain ⟨r1, p1, e1⟩ := ih1 r2 e2
    exact ⟨r1, p1.trans p2, e1⟩
section
variable {prog : Program} {w : World} {A : Around} {E : Value → Shared → Prop} {s : Shared} {h₀ : Heap} {L a : Addr} {m : Str → Option Value} {news : List (Addr × Obj)} {vs : List Value} {T : Value} {lt : Keyed → Keyed → Bool}
/-- what a sort of 64 or 65 items must be told: its comparisons, and what follows of every order of the items that is sorted -/
structure Big (prog : Program) (w : World) (A : Around) (h₀ : Heap) (L : Addr) (m : Str → Option Value) (vs : List Value) (lt : Keyed → Keyed → Bool) (a : Addr) (e1 : Nat) (C : Shared → Prop) (s : Shared) : Prop where
  cmp : CmpS prog w A oneType' (pairsOf vs).toList lt s
  go : ∀ p : Array Nat, Pl vs.length p → Srt lt (p.toList.map (kas_item (pairsOf vs))) → KasFin h₀ L m a e1 (p.toList.map fun i => vs.getD i Value.none) C s
/-- the heap while a list is sorted: the list is emptied, its items lie in a tuple, and a list of keys is there -/
def emptied (h : Heap) (a : Addr) (vs : List Value) : Heap := ((h.update a (Obj.mapSeq fun _ => (#[] : Array Value))).push (seqObj "tuple" vs.toArray 0)).push (seqObj "list" #[] 0)
/-- the heap behind the copy that sorted makes -/
def copied (h : Heap) (vs : List Value) : Heap := (h.push (seqObj "list" #[] 0)).update h.objs.size (Obj.mapSeq (· ++ vs.toArray))
theorem big_list_sort {n : Nat} {P : PySem.Fin → Shared → Prop} (O : LOrd lt) (F : Fr h₀ L s.heap m) (N : News h₀ L s.heap news) (ho : s.heap.get? a = some (seqObj "list" vs.toArray n)) (haL : a ≠ L) (ha0 : h₀.get? a = none) (hna : ∀ p ∈ news, p.1 ≠ a)
    (h64 : 64 ≤ vs.length) (h65 : vs.length ≤ 65) (hT : ∀ e1 h, Fr h₀ L h m → News h₀ L h ((a, seqObj "list" #[] e1) :: news) → ∀ v ∈ vs, Looks (model prog w) h (typeOf v) T) (hT1 : (T != Value.type "tuple") = true) (hT2 : (T == T) = true)
    (h : ∀ e1 h', Fr h₀ L h' m → News h₀ L h' ((a, seqObj "list" #[] e1) :: news) → Big prog w A h₀ L m vs lt a e1 (fun s'' => P (.done (.ret .none)) s'') { s with heap := h' }) :
    wpAny (model prog w) A (Builtin.«list.sort» ⟨[.ref a], []⟩) P E s := by
  obtain ⟨e1, ho1⟩ : ∃ n1, (s.heap.update a (Obj.mapSeq fun _ => #[])).get? a = some (seqObj "list" #[] n1) := ⟨_, get?_update_seq ho (fun _ => #[])⟩
  have sb := Heap.SameBut.update s.heap a (Obj.mapSeq fun _ => (#[] : Array Value))
  obtain ⟨hp, ehp⟩ : ∃ hp, emptied s.heap a vs = hp := ⟨_, rfl⟩
  have Fp : Fr h₀ L hp m := by rw [← ehp]; exact ((kas_fr F sb haL ha0).push _).push _
  have up : ∀ b x, (s.heap.update a (Obj.mapSeq fun _ => (#[] : Array Value))).get? b = some x → hp.get? b = some x := fun b x e => by rw [← ehp]; exact Heap.get?_push_of_some _ (Heap.get?_push_of_some _ e)
  have Np : News h₀ L hp ((a, seqObj "list" #[] e1) :: news) := List.forall_mem_cons.mpr ⟨⟨up _ _ ho1, haL, ha0⟩, (kas_news N sb hna).grown up⟩
  obtain ⟨cmp, go⟩ := h e1 hp Fp Np
  have lenL : vs.length ≤ sizeLine := by rw [sizeLine_eq]; omega
  rw [list_sort_plain]
  refine wpAny_bind (listItems_at ho rfl (wpAny_bind (listUpdate_at ho rfl (wpAny_bind (seqEpoch_at ho1 rfl (wpAny_bind (wpAny_newTuple (wpAny_bind (wpAny_newList (wpAny_holding ?_) (Nat.zero_le _))) lenL)))) (by rw [List.size_toArray]; exact lenL) (Nat.zero_le _))))
  show wpAny (model prog w) A _ P E { s with heap := emptied s.heap a vs }
  rw [ehp]
  dsimp only
  have few : ¬ vs.toArray.size < 2 := by rw [List.size_toArray]; omega
  rw [if_neg few, if_neg few]
  refine wpAny_bind (kas_kind (by omega) (hT e1 _ Fp Np) hT1 hT2 ?_)
  have hlen : (pairsOf vs).toList.length = vs.length := by rw [Array.length_toList]; exact pairsOf_size vs
  have run := wpS_runs65 (E := E) (prog := prog) (w := w) (st := SortSt.mk' oneType' (pairsOf vs) #[] 7 none) (Q := fun _ st' => (arrOf st').toList.Perm (pairsOf vs).toList ∧ failedOf st' = none ∧ Srt lt (arrOf st').toList)
    O cmp rfl rfl rfl (List.Perm.refl _) (by omega) (by omega) fun st' q1 q2 q3 => ⟨q1, q2, q3⟩
  refine wpAny_bind (wpAny_mono run ?_ (fun _ _ hE => hE))
  rintro ⟨⟨⟩, st'⟩ s' ⟨rfl, hperm, hf, hsr⟩
  dsimp only
  have er : (pairsOf vs).toList = (List.range vs.length).map (kas_item (pairsOf vs)) := by
    have := congrArg Array.toList (kas_range (pairsOf vs))
    rw [pairsOf_size] at this
    simpa using this.symm
  obtain ⟨r', hr', err⟩ := perm_pick (kas_item (pairsOf vs)) hperm _ er
  have hpl : Pl vs.length r'.toArray := Array.perm_iff_toList_perm.mpr (by simpa using hr')
  obtain ⟨news', g, F', N', U, k⟩ := go r'.toArray hpl (by rw [← err]; exact hsr)
  obtain ⟨fst, lst, e0, hg, y1, y2⟩ := U.split
  rw [e0] at N'
  have at_a := N' (a, seqObj "list" #[] e1) (List.mem_append_right _ List.mem_cons_self)
  have hout : (arrOf st').map (·.2) = List.toArray (r'.map fun i => vs.getD i Value.none) := by
    apply Array.toList_inj.mp
    rw [Array.toList_map, err, List.map_map]
    refine List.map_congr_left fun i _ => ?_
    exact congrArg Prod.snd (kas_item_eq vs i)
  have hsz : (List.toArray (r'.map fun i => vs.getD i Value.none)).size = vs.length := by rw [List.size_toArray, List.length_map, hr'.length_eq, List.length_range]
  rw [hout]
  obtain ⟨c2, hc2⟩ : ∃ c2, (hp.update a (Obj.mapSeq fun _ => List.toArray (r'.map fun i => vs.getD i Value.none))).get? a = some (seqObj "list" (List.toArray (r'.map fun i => vs.getD i Value.none)) c2) := ⟨_, get?_update_seq at_a.1 fun _ => List.toArray (r'.map fun i => vs.getD i Value.none)⟩
  have sb2 := Heap.SameBut.update hp a (Obj.mapSeq fun _ => List.toArray (r'.map fun i => vs.getD i Value.none))
  refine wpAny_bind (seqEpoch_at at_a.1 rfl (wpAny_bind (listUpdate_at at_a.1 rfl ?_ (Nat.zero_le _) (by rw [hsz]; exact Nat.le_succ_of_le lenL))))
  rw [hf]
  simp only [bne_self_eq_false, Bool.false_eq_true, if_false]
  refine wpAny_pure (k _ c2 (kas_fr F' sb2 at_a.2.1 at_a.2.2) ?_)
  rw [hg]
  exact news_set N' y1 y2 sb2 hc2
theorem big_sorted {l : Addr} {Q : Value → Shared → Prop} (O : LOrd lt) (F : Fr h₀ L s.heap m) (N : News h₀ L s.heap news) (hl : s.heap.IsList l vs.toArray) (h64 : 64 ≤ vs.length) (h65 : vs.length ≤ 65)
    (hT : ∀ h, Fr h₀ L h m → News h₀ L h news → ∀ v ∈ vs, Looks (model prog w) h (typeOf v) T) (hT1 : (T != Value.type "tuple") = true) (hT2 : (T == T) = true)
    (h : ∀ D e1 h', Fr h₀ L h' m → News h₀ L h' ((D, seqObj "list" #[] e1) :: news) → (∀ q ∈ news, q.1 < D) → Big prog w A.in1.in1 h₀ L m vs lt D e1 (fun s'' => Q (.ref D) s'') { s with heap := h' }) :
    wpAny (model prog w) A (call (.builtin "sorted") [.ref l]) Q E s := by
  have lenL : vs.length ≤ sizeLine := by rw [sizeLine_eq]; omega
  refine Calls.call_function_entry kind_sorted plain_sorted entry_sorted (args_sorted1 _) (?_ : wpAny _ _ (Builtin.«sorted» _) _ _ _)
  unfold Builtin.«sorted»
  refine wpAny_bind (m := checkCount "sorted" 1 1 _) (wpAny_pure (wpAny_bind (collect_list hl (wpAny_bind (wpAny_newList ?_ lenL)) lenL)))
  obtain ⟨h1, eh1⟩ : ∃ h1, copied s.heap vs = h1 := ⟨_, rfl⟩
  have sz1 : h1.objs.size = s.heap.objs.size + 1 := by rw [← eh1, copied, Heap.size_update, size_push']
  have ol : (h1.push (seqObj "list" vs.toArray 0)).get? (s.heap.objs.size + 1) = some (seqObj "list" vs.toArray 0) := by rw [← sz1]; exact Heap.get?_push_size _ rfl
  have keep : ∀ b o, s.heap.get? b = some o → (h1.push (seqObj "list" vs.toArray 0)).get? b = some o := fun b o q => by
    have below := Heap.lt_size q
    rw [Heap.get?_push_ne _ _ _ (by rw [sz1]; exact Nat.ne_of_lt (Nat.lt_succ_of_lt below)), ← eh1, copied, Heap.get?_update_ne _ _ _ _ (Nat.ne_of_lt below), Heap.get?_push_ne _ _ _ (Nat.ne_of_lt below)]
    exact q
  have hL := F.ns.lt
  show wpAny _ _ _ _ _ { s with heap := (copied s.heap vs).push (seqObj "list" vs.toArray 0) }
  unfold copied at eh1 ⊢
  rw [eh1, sz1]
  refine wpAny_bind (wpAny_holding (wpAny_call_entry slot_list_sort ⟨_, ol, rfl⟩ entry_list_sort ?body (args_list_sort _)))
  case body =>
    refine big_list_sort O (s := { s with heap := h1.push (seqObj "list" vs.toArray 0) })
      (F.kept keep) (N.grown keep) ol (Nat.ne_of_gt (Nat.lt_succ_of_lt hL)) (Heap.get?_none_of_le (Nat.le_trans F.above (Nat.le_succ_of_le (Nat.le_of_lt hL))))
      (fun p hp => Nat.ne_of_lt (Nat.lt_succ_of_lt (Heap.lt_size (N p hp).1))) h64 h65 (fun e1 h' F' N' => hT h' F' fun p hp => N' p (.tail _ hp)) hT1 hT2 fun e1 h' F' N' => ?_
    obtain ⟨cmp, go⟩ := h _ e1 h' F' N' fun q hq => Nat.lt_succ_of_lt (Heap.lt_size (N q hq).1)
    exact ⟨cmp, fun p hp hs => (go p hp hs).mono fun s'' hq => ⟨_, rfl, wpAny_pure ⟨_, rfl, hq⟩⟩⟩
end
end TT
namespace TT
open PySem PySem.Spec PyProof.Rows L2
/-- the ints of the list that a value names -/
def intsAt (H : Hp) : Value → List Int
  | .ref a => match H a with
    | some (.lst l) => l.map fun x => match x with
      | .int n => n
      | _ => 0
    | _ => []
  | _ => []
theorem intsAt_ref {H : Hp} {a : Addr} {q : List Int} (h : H a = some (.lst (q.map V.int))) : intsAt H (.ref a) = q := by
  simp only [intsAt, h, List.map_map]
  exact List.map_id _
def ltH (H : Hp) (x y : Keyed) : Bool := HT.lexLt (intsAt H x.1) (intsAt H y.1)
theorem ltH_ord (H : Hp) : LOrd (ltH H) := ⟨fun _ => lex_irr _, fun _ _ _ => lex_tr _ _ _, fun _ _ _ => lex_neg _ _ _⟩
def rSorted65 (K : PySem.W.Frag) : List V → Hp → VK → Prop := fun xs H Q => ∃ (p : Addr) (vs : List V) (ps : List (List Int)) (R : V → List Int → Prop), xs = [.ref p] ∧ SqL K H p vs ∧ Paired R vs ps ∧
  (∀ v q, R v q → ∃ a, v = .ref a ∧ H a = some (.lst (q.map V.int))) ∧ ps.length ≤ 65 ∧ ∀ l vs' ps', H l = none → Paired R vs' ps' → ps'.Perm ps → Rising ps' → Q (.ref l) (upd H l (.lst vs'))
section
variable {X : Cx}
theorem call_sorted65 (hu : X.A.in1.in1.units < cLine) : CallR X (.builtin "sorted") (rSorted65 X.K) := by
  intro pins s σ H xs us Q I r h
  obtain ⟨p, vs, ps, R, rfl, hq, hR, hA, h65, k⟩ := h
  by_cases h64 : ps.length < 64
  · exact call_sorted hu pins s σ H [.ref p] us Q I r ⟨p, vs, ps, R, rfl, hq, hR, hA, h64, k⟩
  obtain ⟨u, rfl, rx⟩ := vals1 r
  cases rx
  obtain ⟨its, rv, pl, hz⟩ := I.list hq
  have hl := rv.length
  have hl2 := paired_length hR
  obtain ⟨m, F⟩ := I.fr
  have hm : s.heap.Ns X.env.locals m := F.ns
  have N : News X.base X.env.locals s.heap (allNews X.base s.heap X.env.locals) := news_all
  have item : ∀ i, i < its.length → ∃ (a : Addr) (ks : List Value) (c : Nat), its.getD i Value.none = .ref a ∧ Vals ((ps.getD i []).map V.int) ks ∧ (a, ({ cls := .type "list", data := .seq ks.toArray c } : Obj)) ∈ allNews X.base s.heap X.env.locals ∧ H a = some (.lst ((ps.getD i []).map V.int)) := fun i hi => by
    have e1 : vs[i]? = some vs[i] := by simp [show i < vs.length by omega]
    have e2 : ps[i]? = some (ps.getD i []) := by rw [List.getD_eq_getElem?_getD]; simp [show i < ps.length by omega]
    obtain ⟨a, ea, ha⟩ := hA _ _ (paired_get hR e1 e2)
    obtain ⟨_, ks, c, rk, eo⟩ := I.hok a _ ha
    obtain ⟨u, eu, ru⟩ := rv.get e1
    rw [ea] at ru
    cases ru
    refine ⟨a, ks, c, ?_, rk, mem_allNews (fun z => ?_) ?_ eo, ha⟩
    · rw [List.getD_eq_getElem?_getD, eu]; rfl
    · rw [z, I.free] at ha; cases ha
    · cases q : X.base.get? a with
      | none => rfl
      | some ob => rw [(I.bs a ob q).2] at ha; cases ha
  have place : ∀ v ∈ its, ∃ i, i < its.length ∧ its.getD i Value.none = v := fun v hv => by
    obtain ⟨i, hi, ei⟩ := List.mem_iff_getElem.mp hv
    exact ⟨i, hi, by rw [List.getD_eq_getElem?_getD]; simp [hi, ei]⟩
  have key : ∀ i, i < its.length → intsAt H (its.getD i Value.none) = ps.getD i [] := fun i hi => by
    obtain ⟨a, _, _, ea, _, _, ha⟩ := item i hi
    rw [ea]
    exact intsAt_ref ha
  refine big_sorted (T := .type "list") (lt := ltH H) (ltH_ord H) F N pl.isList (by omega) (by omega) (fun h Fh Nh v hv => ?_) (by decide) (by decide) fun D e1 h' F' N' hD => ⟨fun x y hx hy => ?_, fun q hq hs => ?_⟩
  · obtain ⟨i, hi, rfl⟩ := place v hv
    obtain ⟨a, ks, c, ea, _, ma, _⟩ := item i hi
    rw [ea]
    exact PySem.W.kitAt_ty _ h ⟨_, (Nh _ ma).1, rfl⟩
  · have pr : ∀ z ∈ (pairsOf its).toList, ∃ i, i < its.length ∧ z.1 = its.getD i Value.none := fun z hz => by
      have hz' : z ∈ its.zip its := by simpa [pairsOf] using hz
      obtain ⟨i, hi, e⟩ := place z.1 (List.of_mem_zip hz').1
      exact ⟨i, hi, e.symm⟩
    obtain ⟨i, hi, ex⟩ := pr x hx
    obtain ⟨j, hj, ey⟩ := pr y hy
    obtain ⟨a, ks, c, ea, ra, ma, _⟩ := item i hi
    obtain ⟨b, ks2, c2, eb, rb, mb, _⟩ := item j hj
    have e : ltH H x y = HT.lexLt (ps.getD i []) (ps.getD j []) := by
      show HT.lexLt (intsAt H x.1) (intsAt H y.1) = _
      rw [ex, ey, key i hi, key j hj]
    rw [e, keyLt'_oneType, ex, ey, ea, eb]
    exact sortLt_list ⟨_, (N' _ (List.mem_cons_of_mem _ ma)).1, rfl, _, rfl⟩ ⟨_, (N' _ (List.mem_cons_of_mem _ mb)).1, rfl, _, rfl⟩ (intsAre_of ra) (intsAre_of rb) hu ⟨rfl, rfl⟩
  · refine PySem.W.KasFin.intro F' N' (.head fun z hz' => Nat.ne_of_lt (hD z hz')) fun h2' c F2 N2 => ?_
    have hDn : H D = none := by
      cases e : H D with
      | none => rfl
      | some u =>
        obtain ⟨ob, eo⟩ : ∃ ob, s.heap.get? D = some ob := obj_ex (I.hok D u e)
        exact absurd (hD _ (mem_allNews (N' _ List.mem_cons_self).2.1 (N' _ List.mem_cons_self).2.2 eo)) (Nat.lt_irrefl _)
    have hlen : q.size = its.length := hq.size
    have hin : ∀ i ∈ q.toList, i < its.length := fun i hi => by
      have : i ∈ List.toArray (List.range its.length) := (Array.Perm.mem_iff hq).mp (Array.mem_toList_iff.mp hi)
      simpa using this
    have keep : ∀ b u, b ≠ X.env.locals → s.heap.get? b = some u → h2'.get? b = some u := fun b u hb e => by
      cases e2 : X.base.get? b with
      | some ob =>
        have := I.bk b ob e2
        rw [e] at this
        cases this
        exact F2.keep b _ e2
      | none => exact (N2 (b, u) (List.mem_cons_of_mem _ (mem_allNews hb e2 e))).1
    have hperm : (q.toList.map fun i => ps.getD i []).Perm ps := by
      have hp2 : q.toList.Perm (List.range its.length) := by simpa using Array.perm_iff_toList_perm.mp hq
      have := hp2.map fun i => ps.getD i []
      rw [show its.length = ps.length by omega] at this
      exact this.trans (List.Perm.of_eq (pick_range ps []))
    refine ⟨.ref D, _, laidL (s := s) (h' := h2') (t' := s.toks) (o := .lst (q.toList.map fun i => vs.getD i .non)) I hm F2.ns keep hDn (fun b u e n z => ?_) ⟨?_, q.toList.map fun i => its.getD i Value.none, c, ?_, (N2 (D, _) List.mem_cons_self).1⟩, rfl,
      k D _ (q.toList.map fun i => ps.getD i []) hDn (paired_pick hR _ fun i hi => by have := hin i hi; omega) hperm ?_⟩
    · subst z
      exact absurd (hD _ (mem_allNews (N' _ List.mem_cons_self).2.1 (N' _ List.mem_cons_self).2.2 e)) (Nat.lt_irrefl _)
    · rw [List.length_map, Array.length_toList]; omega
    · exact paired_pick rv _ fun i hi => by have := hin i hi; omega
    · refine List.pairwise_map.mpr ?_
      have hs' := List.pairwise_map.mp hs
      refine List.Pairwise.imp_of_mem (fun {i j} hi hj hij => ?_) hs'
      have hij' : HT.lexLt (intsAt H (PySem.W.kas_item (pairsOf its) j).1) (intsAt H (PySem.W.kas_item (pairsOf its) i).1) = false := hij
      rw [PySem.W.kas_item_eq, PySem.W.kas_item_eq] at hij'
      rw [key j (hin j hj), key i (hin i hi)] at hij'
      exact hij'
end
end TT
namespace K10
open PySem L2 TT
/-- the top statements of the text -/
def top (i : Nat) : Stmt := PySem.Challenge.pw_treetrim_k10_whole_written_and_read.main.body.getD i (.Pass ⟨0, 0, 0, 0⟩)
abbrev sMark : Stmt := top 4
abbrev sTU : Stmt := top 5
abbrev sKnot : Stmt := top 6
abbrev sLevels : Stmt := top 7
abbrev sAt : Stmt := top 8
abbrev sMarkAt : Stmt := top 9
abbrev sPaths : Stmt := top 11
abbrev sShown : Stmt := top 15
abbrev sJoint : Stmt := top 16
abbrev sClosing : Stmt := top 17
abbrev sRead : Stmt := top 18
abbrev sNbr : Stmt := top 19
abbrev sBrk : Stmt := top 20
abbrev sRowOf : Stmt := top 21
abbrev sLawAt : Stmt := top 23
abbrev sDrawn : Stmt := top 24
abbrev sIsRow : Stmt := top 25
abbrev sLineOf : Stmt := top 26
abbrev sWord : Stmt := top 27
abbrev sSo : Stmt := top 28
abbrev sLaw : Stmt := top 29
/-- what the text does not name anew -/
structure Txt (mg : Str → Option Value) : Prop where
  list : mg "list" = none
  tuple : mg "tuple" = none
  len : mg "len" = none
  range : mg "range" = none
  min : mg "min" = none
  max : mg "max" = none
  abs : mg "abs" = none
  isinstance : mg "isinstance" = none
  str : mg "str" = none
  int : mg "int" = none
  bool : mg "bool" = none
  reversed : mg "reversed" = none
  enumerate : mg "enumerate" = none
  sorted : mg "sorted" = none
section
variable {P : Program} {w : World} {K : PySem.W.Frag} {mg : Str → Option Value} {base : Heap}
/-! ### mark_of, knot -/
def spMark : Sp := fun vs H Q _ => ∃ (G : Hp) (v : V) (t : Tr), vs = [v] ∧ Same G H ∧ Rep G v t.d ∧ Q (.str t.mark) H
theorem scMark : FnScope ["tree"] ["tree"] (defScope sMark) := ⟨rfl, rfl, rfl, by decide +kernel, rfl, by decide +kernel, by decide +kernel⟩
theorem ok_mark {f : Addr} {fd : FuncData} (F : Fun K "mark_of" "mark_of" sMark f fd) : FnOk P w K mg base CX0 3 f fd ["tree"] spMark := by
  refine F.ok scMark (fun vs H Q E h => ?_) (fun cdv A outer s H vs Q E hr h => ?_)
  · obtain ⟨G, v, t, rfl, _⟩ := h
    rfl
  · obtain ⟨G, v, t, rfl, sm, r, k⟩ := h
    obtain ⟨a, kv, rfl, ha, rk⟩ := r.tree
    refine ⟨_, (pss_one (ps_ret (pe_ix ix_tup (pv 0) pe_int (fun _ _ => rfl)))), ?_⟩
    exact ⟨_, rfl, a, _, _, _, rfl, rfl, SqT.of (sm _ _ ha), atI_nat (j := 0) rfl, k⟩
def spKnot : Sp := fun vs H Q _ => ∃ (G : Hp) (m : Str) (v : V) (ts : List Tr), vs = [.str m, v] ∧ Same G H ∧ Rep G v (rowD ts) ∧ ts.length ≤ 100000 ∧ ∀ (G' H' : Hp) (r : V), Ext G H G' H' → Rep G' r (Tr.node m ts).d → Q r H'
theorem scKnot : FnScope ["mark", "trees"] ["mark", "trees"] (defScope sKnot) := ⟨rfl, rfl, rfl, by decide +kernel, rfl, by decide +kernel, by decide +kernel⟩
theorem ok_knot {f : Addr} {fd : FuncData} (F : Fun K "knot" "knot" sKnot f fd) (T : Txt mg) : FnOk P w K mg base CX0 3 f fd ["mark", "trees"] spKnot := by
  refine F.ok scKnot (fun vs H Q E h => ?_) (fun cdv A outer s H vs Q E hr h => ?_)
  · obtain ⟨G, m, v, t, rfl, _⟩ := h
    rfl
  · obtain ⟨G, m, v, ts, rfl, sm, r, hl, k⟩ := h
    obtain ⟨a, tv, rfl, ha, rt⟩ := r.row
    have hlen := rt.length
    rw [List.length_map] at hlen
    have big := line_big
    refine ⟨_, (pss_one (ps_ret (pe_callTy call_tuple_of rfl T.tuple bt_tuple (pa_cons (pe_op op_cat (pe_lst (pa_cons (pv 0) pa_nil)) (pv 1)) pa_nil)))), ?_⟩
    refine ⟨_, rfl, (by show 1 ≤ sizeLine; decide), fun p1 h1 => ⟨_, rfl, p1, a, _, _, rfl, rfl, upd_same, same_upd h1 _ _ (sm _ _ ha), (by show 1 + tv.length ≤ sizeLine; omega), fun p2 h2 => ⟨p2, _, rfl, .inl ⟨SqL.of upd_same, fun p3 h3 => ?_⟩⟩⟩⟩
    have x1 : Ext G H G (upd H p1 (.lst [V.str m])) := Ext.tmp sm h1
    have x2 := x1.trans (Ext.tmp (o := .lst ([V.str m] ++ tv)) x1.gh h2)
    have x3 := x2.trans (Ext.add (o := .tup ([V.str m] ++ tv)) x2.gh h3)
    refine k _ _ _ x3 ?_
    rw [tree_d]
    exact .tup upd_same (.cons (.str m) (rt.mono x3.g))
/-! ### trees_under -/
def spTU : Sp := fun vs H Q _ => ∃ (G : Hp) (v : V) (t : Tr), vs = [v] ∧ Same G H ∧ Rep G v t.d ∧ ∀ (G' H' : Hp) (r : V), Ext G H G' H' → Rep G' r (rowD t.kids) → Q r H'
theorem scTU : FnScope ["tree"] ["tree"] (defScope sTU) := ⟨rfl, rfl, rfl, by decide +kernel, rfl, by decide +kernel, by decide +kernel⟩
theorem ok_tu {f : Addr} {fd : FuncData} (F : Fun K "trees_under" "trees_under" sTU f fd) (T : Txt mg) : FnOk P w K mg base CX0 3 f fd ["tree"] spTU := by
  refine F.ok scTU (fun vs H Q E h => ?_) (fun cdv A outer s H vs Q E hr h => ?_)
  · obtain ⟨G, v, t, rfl, _⟩ := h
    rfl
  · obtain ⟨G, v, t, rfl, sm, r, k⟩ := h
    obtain ⟨a, kv, rfl, ha, rk⟩ := r.tree
    refine ⟨_, (pss_one (ps_ret (pe_callTy call_list_of rfl T.list bt_list (pa_cons (pe_slice sl_tup (pv 0) (po_some pe_int) po_none) pa_nil)))), ?_⟩
    refine ⟨_, rfl, _, rfl, a, _, rfl, SqT.of (sm _ _ ha), kids_not _ _, fun p hp => ⟨p, kv, rfl, .inr (SqT.of (by rw [upd_same, kids_cut])), fun l hl => ?_⟩⟩
    have x1 : Ext G H G (upd H p (.tup (cutV (V.str t.mark :: kv) (some 1) none))) := Ext.tmp sm hp
    have x2 := x1.trans (Ext.add (o := .lst kv) x1.gh hl)
    exact k _ _ _ x2 (.lst upd_same (rk.mono x2.g))

/-! ### _law_at -/
def spLawAt (K : PySem.W.Frag) : Sp := fun vs H Q _ => ∃ (a : Addr) (ns : List Int) (k : Nat), vs = [.ref a, .int (k : Int)] ∧ SqL K H a (ns.map V.int) ∧ ∀ m : Int, Q (.int m) H
theorem scLawAt : FnScope ["_law_script", "_law_k"] ["_law_script", "_law_k"] (defScope sLawAt) := ⟨rfl, rfl, rfl, by decide +kernel, rfl, by decide +kernel, by decide +kernel⟩
theorem ok_lawat {f : Addr} {fd : FuncData} (F : Fun K "_law_at" "_law_at" sLawAt f fd) (T : Txt mg) : FnOk P w K mg base CX0 3 f fd ["_law_script", "_law_k"] (spLawAt K) := by
  refine F.ok scLawAt (fun vs H Q E h => ?_) (fun cdv A outer s H vs Q E hr h => ?_)
  · obtain ⟨a, ns, k, rfl, _⟩ := h
    rfl
  · obtain ⟨a, ns, k, rfl, hS, q⟩ := h
    refine ⟨_, (pss_cons (ps_if (pt_cmpR op_lt (pv 1) (pe_callB call_len_seq rfl T.len bt_len (pa_cons (pv 0) pa_nil)) (nomark _))
        (pss_one (ps_ret (pe_ix ix_list (pv 0) (pv 1) (fun _ _ => rfl))))
        pss_nil)
      (pss_one (ps_ret pe_int))), ?_⟩
    refine ⟨_, rfl, _, rfl, a, _, rfl, .inl hS, _, _, rfl, rfl, _, rfl, ?_⟩
    refine ite2 (fun h => ?_) (fun _ => q 0)
    have h1 := of_decide_eq_true h
    rw [List.length_map] at h1
    exact ⟨_, rfl, _, rfl, a, _, _, _, rfl, rfl, hS, ints_ix (by omega), q _⟩
/-! ### _law_is_row -/
def spIsRow : Sp := fun vs H Q _ => ∃ (G : Hp) (v : V) (ts : List Tr), vs = [v] ∧ Same G H ∧ Rep G v (rowD ts) ∧ knotsOf ts ≤ 1000 ∧ ∀ H' : Hp, Same H H' → Q (.bl true) H'
theorem scIsRow : FnScope ["_law_found", "_law_todo", "_law_tree"] ["_law_found"] (defScope sIsRow) := ⟨rfl, rfl, rfl, by decide +kernel, rfl, by decide +kernel, by decide +kernel⟩
theorem ok_isrow {f : Addr} {fd : FuncData} (F : Fun K "_law_is_row" "_law_is_row" sIsRow f fd) (T : Txt mg) : FnOk P w K mg base CX0 5 f fd ["_law_found"] spIsRow := by
  refine F.ok scIsRow (fun vs H Q E h => ?_) (fun cdv A outer s H vs Q E hr h => ?_)
  · obtain ⟨G, v, ts, rfl, _⟩ := h
    rfl
  · obtain ⟨G, v, ts, rfl, sm, rv, hkt, k⟩ := h
    have nd := scIsRow.nd
    have hu := hr.units0
    have big := line_big
    refine ⟨_, (pss_cons (ps_if (pt_not (pt_val (pe_callB call_isi rfl T.isinstance bt_isinstance (pa_cons (pv 0) (pa_cons (pe_ty rfl T.list bt_list) pa_nil)))))
        (pss_one (ps_ret pe_bl))
        pss_nil)
      (pss_cons (ps_set (i := 1) nd rfl (Or.inl rfl) (pe_callTy call_list_of rfl T.list bt_list (pa_cons (pv 0) pa_nil)))
      (pss_cons (ps_while PassesOwn.never (pt_cmpR (op_neE hu) (pv 1) (pe_lst pa_nil) (nomark _))
        (pss_cons (ps_set (i := 2) nd rfl (Or.inl rfl) (pe_bm0 PySem.F.plainAttrs_list PySem.F.slot_list_pop PySem.F.type_list_pop mt_pop (pv 1)))
        (pss_cons (ps_if (PW.pt (pw_or (pt_not (pt_val (pe_callB call_isi rfl T.isinstance bt_isinstance (pa_cons (pv 2) (pa_cons (pe_ty rfl T.tuple bt_tuple) pa_nil))))) (pw_or (pt_cmpR op_eq (pe_callB call_len_seq rfl T.len bt_len (pa_cons (pv 2) pa_nil)) pe_int (nomark _)) (pw_or1 (pt_not (pt_val (pe_callB call_isi rfl T.isinstance bt_isinstance (pa_cons (pe_ix ix_tup (pv 2) pe_int (fun _ _ => rfl)) (pa_cons (pe_ty rfl T.str bt_str) pa_nil)))))))))
          (pss_one (ps_ret pe_bl))
          pss_nil)
        (pss_one (ps_set (i := 1) nd rfl (Or.inl rfl) (pe_op op_cat (pv 1) (pe_callTy call_list_of rfl T.list bt_list (pa_cons (pe_slice sl_tup (pv 2) (po_some pe_int) po_none) pa_nil))))))))
      (pss_one (ps_ret pe_bl))))), ?_⟩
    obtain ⟨ra, rvs, rfl, hra, rts⟩ := rv.row
    refine ⟨_, rfl, _, _, _, _, rfl, .lst (sm _ _ hra), kit_list_list K, _, rfl, iteF ?_⟩
    refine ⟨_, rfl, ra, rvs, rfl, .inl (SqL.of (sm _ _ hra)), fun p0 hp0 => ?_⟩
    refine ⟨fun m σ H2 => ∃ (pt : Addr) (tv : List V) (us : List Tr) (z : Option V), σ = [some (.ref ra), some (.ref pt), z] ∧ Ext G H G H2 ∧ G pt = none ∧ H pt = none ∧ H2 pt = some (.lst tv) ∧ Reps G tv (us.map Tr.d) ∧ knotsOf us = m ∧ m ≤ 1000,
      ⟨_, p0, rvs, ts, none, rfl, Ext.tmp sm hp0, sm.none hp0, hp0, upd_same, rts, rfl, hkt⟩, ?_⟩
    rintro m σ H2 ⟨pt, tv, us, z, rfl, x, nG, nH, hpt, rus, rfl, hm⟩
    refine ⟨_, rfl, Nat.zero_le _, fun pe hpe => ⟨pt, pe, tv, rfl, rfl, SqL.of (same_upd hpe _ _ hpt), SqL.of upd_same, _, rfl, ?_⟩⟩
    have x1 := x.trans (Ext.tmp (o := .lst []) x.gh hpe)
    have hpt1 := same_upd (o := .lst []) hpe _ _ hpt
    cases he : tv.isEmpty with
    | true => exact iteF (k _ x1.h)
    | false =>
      obtain ⟨t0, y, rfl⟩ := last_of tv he
      have hul := rus.length
      rw [List.length_map, List.length_append, List.length_singleton] at hul
      obtain ⟨us0, t, rfl⟩ : ∃ us0 t, us = us0 ++ [t] := by
        cases hq : us.isEmpty with
        | true => rw [List.isEmpty_iff.mp hq] at hul; simp at hul
        | false => exact last_of us hq
      rw [List.map_append] at rus
      have hl0 : t0.length = us0.length := by rw [List.length_append, List.length_singleton] at hul; omega
      have r0 : Reps G t0 (us0.map Tr.d) := by
        have := rus.take t0.length
        rwa [List.take_left, show t0.length = (us0.map Tr.d).length by rw [List.length_map]; exact hl0, List.take_left] at this
      have rt : Rep G y t.d := by
        have := rus.drop t0.length
        rw [List.drop_left, show t0.length = (us0.map Tr.d).length by rw [List.length_map]; exact hl0, List.drop_left] at this
        cases this with
        | cons r _ => exact r
      obtain ⟨tra, kv, rfl, htra, rkv⟩ := rt.tree
      have hkm : knotsOf (us0 ++ [t]) = knotsOf us0 + (1 + knotsOf t.kids) := by rw [knotsOf_append, knotsOf, knotsOf, knots_eq]; rfl
      have hkvl := rkv.length
      rw [List.length_map] at hkvl
      have l1 := length_le_knots us0
      have l2 := length_le_knots t.kids
      refine iteT ⟨fun σ' H' => ∃ m', m' < knotsOf (us0 ++ [t]) ∧ ∃ (pt : Addr) (tv : List V) (us : List Tr) (z : Option V), σ' = [some (.ref ra), some (.ref pt), z] ∧ Ext G H G H' ∧ G pt = none ∧ H pt = none ∧ H' pt = some (.lst tv) ∧ Reps G tv (us.map Tr.d) ∧ knotsOf us = m' ∧ m' ≤ 1000, fun _ _ z => z, ?_⟩
      -- tree = todo.pop()
      refine ⟨_, rfl, .inl ⟨rfl, _, SqL.of hpt1⟩, pt, _, _, rfl, rfl, hpt1, last_at t0 _, ?_⟩
      rw [List.dropLast_concat]
      have x2 := x1.mut (o := .lst t0) nG nH
      have ht2 := x2.gh _ _ htra
      refine ⟨_, rfl, _, _, _, _, rfl, .tup ht2, kit_tuple_tuple K, _, rfl, iteF ?_⟩
      refine ⟨_, rfl, tra, _, rfl, .inr (SqT.of ht2), rfl, _, rfl, ?_⟩
      refine ite2 (fun h => ?_) (fun _ => ?_)
      · exfalso
        have := of_decide_eq_true h
        injection this with this
        rw [List.length_cons] at this
        omega
      refine ⟨_, rfl, tra, _, _, _, rfl, rfl, SqT.of ht2, atI_nat (j := 0) rfl, _, _, _, _, rfl, .str _, kit_str_str K, _, rfl, iteF ?_⟩
      -- todo = todo + list(tree[1:])
      refine ⟨_, rfl, _, rfl, _, rfl, tra, _, rfl, SqT.of ht2, kids_not _ _, fun q1 h1 => ⟨q1, kv, rfl, .inr (SqT.of (by rw [upd_same, kids_cut])), fun q2 h2 => ?_⟩⟩
      have x3 := x2.trans (Ext.tmp (o := .tup (cutV (V.str t.mark :: kv) (some 1) none)) x2.gh h1)
      have x4 := x3.trans (Ext.tmp (o := .lst kv) x3.gh h2)
      refine ⟨pt, q2, _, _, rfl, rfl, same_upd h2 _ _ (same_upd h1 _ _ upd_same), upd_same, (by omega), fun q3 h3 => ?_⟩
      have x5 := x4.trans (Ext.tmp (o := .lst (t0 ++ kv)) x4.gh h3)
      refine ⟨_, ?_, q3, _, us0 ++ t.kids, _, rfl, x5, x4.gh.none h3, x4.h.none h3, upd_same, ?_, rfl, ?_⟩
      · rw [knotsOf_append]; omega
      · rw [List.map_append]
        exact r0.append rkv
      · rw [knotsOf_append]; omega
/-! ### _law_any_word -/
def spWord : Sp := fun vs H Q _ => ∃ n : Int, vs = [.int n] ∧ ∀ (H' : Hp) (x : Str), Same H H' → Word x → Q (.str x) H'
theorem scWord : FnScope ["_law_cell", "_law_left", "_law_word"] ["_law_cell"] (defScope sWord) := ⟨rfl, rfl, rfl, by decide +kernel, rfl, by decide +kernel, by decide +kernel⟩
def leftOf : L2.St → Nat
  | [_, some (.int l), _] => (l + 1).toNat
  | _ => 0
theorem word_len {l : Int} {n : Nat} (h0 : 0 ≤ l) (h : (l + 1) * 26 ^ n ≤ 10 ^ 39) : n ≤ 27 := by
  by_cases hn : n ≤ 27
  · exact hn
  · exfalso
    obtain ⟨d, rfl⟩ : ∃ d, n = 28 + d := ⟨n - 28, by omega⟩
    have p0 : (0 : Int) < 26 ^ d := Int.pow_pos (by decide)
    have e : (26 : Int) ^ (28 + d) = 26 ^ 28 * 26 ^ d := Int.pow_add ..
    have h1 : (26 : Int) ^ 28 * 26 ^ d ≥ 26 ^ 28 * 1 := Int.mul_le_mul_of_nonneg_left (by omega) (by decide)
    have h2 : (l + 1) * (26 ^ (28 + d) : Int) ≥ 1 * (26 ^ (28 + d) : Int) := Int.mul_le_mul_of_nonneg_right (by omega) (by rw [e]; exact Int.mul_nonneg (by decide) (by omega))
    have h3 : (26 : Int) ^ 28 > 10 ^ 39 := by decide
    rw [e] at h2
    rw [e] at h
    omega
theorem ok_word {f : Addr} {fd : FuncData} (F : Fun K "_law_any_word" "_law_any_word" sWord f fd) (T : Txt mg) : FnOk P w K mg base CX0 3 f fd ["_law_cell"] spWord := by
  refine F.ok scWord (fun vs H Q E h => ?_) (fun cdv A outer s H vs Q E hr h => ?_)
  · obtain ⟨n, rfl, _⟩ := h
    rfl
  · obtain ⟨n, rfl, k⟩ := h
    have nd := scWord.nd
    refine ⟨_, (pss_cons (ps_set (i := 1) nd rfl (Or.inl rfl) (pe_op op_mod (pe_callB call_abs rfl T.abs bt_abs (pa_cons (pv 0) pa_nil)) (pe_op op_pow pe_int pe_int)))
      (pss_cons (ps_set (i := 2) nd rfl (Or.inl rfl) pe_str)
      (pss_cons (ps_while PassesOwn.never (pt_cmpR op_ge (pv 1) pe_int (nomark _))
        (pss_cons (ps_set (i := 2) nd rfl (Or.inl rfl) (pe_op op_add_str (pe_ix ix_str pe_str (pe_op op_mod (pv 1) pe_int) (fun _ _ => rfl)) (pv 2)))
        (pss_one (ps_set (i := 1) nd rfl (Or.inl rfl) (pe_op op_sub (pe_op op_fdiv (pv 1) pe_int) pe_int)))))
      (pss_one (ps_ret (pv 2)))))), ?_⟩
    refine ⟨_, rfl, n, rfl, _, _, rfl, rfl, ⟨by decide, by decide, by decide⟩, _, _, rfl, rfl, (by show (0 : Int) < 10 ^ (39 : Int).toNat; decide), ?_⟩
    refine while_by (fun σ H2 => ∃ (l : Int) (x : Str), σ = [some (.int n), some (.int l), some (.str x)] ∧ H2 = H ∧ -1 ≤ l ∧ (l + 1) * 26 ^ x.length ≤ 10 ^ 39 ∧ (∀ c ∈ x.cps.toList, 97 ≤ c ∧ c ≤ 122) ∧ (l = -1 → 1 ≤ x.length) ∧ x.length ≤ 28)
      (fun σ _ => leftOf σ) ?_ ?_ (fun σ H Q Q' hq ⟨v, e, i, j, e1, e2, kk, e3, h⟩ => ⟨v, e, i, j, e1, e2, kk, e3, hq _ _ h⟩)
    · refine ⟨_, _, rfl, rfl, ?_, ?_, ?_, ?_, ?_⟩
      · have := Int.emod_nonneg (if n < 0 then -n else n) (b := 10 ^ (39 : Int).toNat) (by decide)
        omega
      · have := Int.emod_lt_of_pos (if n < 0 then -n else n) (b := 10 ^ (39 : Int).toNat) (by decide)
        show (_ + 1) * 26 ^ 0 ≤ _
        have e : (10 : Int) ^ (39 : Int).toNat = 10 ^ 39 := rfl
        rw [e] at this
        omega
      · intro c hc
        have : c ∈ ([] : List Nat) := hc
        cases this
      · intro e
        have := Int.emod_nonneg (if n < 0 then -n else n) (b := 10 ^ (39 : Int).toNat) (by decide)
        omega
      · exact Nat.zero_le _
    · rintro σ H2 ⟨l, x, rfl, rfl, hl, hb, hw, h1, h28⟩
      refine ⟨_, rfl, _, _, rfl, rfl, _, rfl, ?_⟩
      refine ite2 (fun hge => ?_) (fun hge => ?_)
      · have h0 : 0 ≤ l := of_decide_eq_true hge
        have hlen := word_len h0 hb
        obtain ⟨c, hat, hc1, hc2⟩ := alphabet_at l
        refine ⟨_, rfl, _, _, rfl, rfl, (by show (0 : Int) < 26; decide), _, _, c, rfl, rfl, (by decide +kernel), hat, _, rfl, _, _, rfl, rfl, ?_, ?_⟩
        · show 1 + x.length ≤ sizeLine
          have := line_big
          omega
        · refine ⟨_, rfl, _, _, rfl, rfl, ⟨by decide, by decide⟩, _, _, rfl, rfl, ?_⟩
          have hx : ((⟨#[c]⟩ : Str) ++ x).length = 1 + x.length := by
            show (#[c] ++ x.cps).size = 1 + x.cps.size
            rw [Array.size_append]; rfl
          have hq : l / 26 ≤ l := by omega
          refine ⟨⟨l / 26 - 1, (⟨#[c]⟩ : Str) ++ x, rfl, rfl, by omega, ?_, ?_, ?_, ?_⟩, ?_⟩
          · rw [hx, Int.sub_add_cancel, Nat.add_comm, Int.pow_succ, ← Int.mul_assoc, Int.mul_assoc (l / 26), Int.mul_comm (26 ^ x.length) 26, ← Int.mul_assoc]
            have p0 : (0 : Int) ≤ 26 ^ x.length := Int.le_of_lt (Int.pow_pos (by decide))
            exact Int.le_trans (Int.mul_le_mul_of_nonneg_right (by omega) p0) hb
          · intro d hd
            have hd' : d ∈ ((#[c] ++ x.cps) : Array Nat).toList := hd
            rw [Array.toList_append] at hd'
            rcases List.mem_append.mp hd' with h | h
            · have : d = c := by simpa using h
              omega
            · exact hw d h
          · intro _; rw [hx]; omega
          · rw [hx]; omega
          · show (l / 26 - 1 + 1).toNat < (l + 1).toNat
            omega
      · have : l = -1 := by
          have : ¬ 0 ≤ l := fun z => hge (decide_eq_true z)
          omega
        refine ⟨_, rfl, ?_⟩
        exact k _ x (Same.refl _) ⟨h1 this, h28, hw⟩

end
end K10
namespace K10
open PySem L2 TT TX
def alpha : Str := Str.ofString "abcdefghijklmnopqrstuvwxyz"
def nbV : List V := [V.str (Str.ofString "aa"), V.str (Str.ofString "a("), V.str (Str.ofString "a)"), V.str (Str.ofString "a "), V.str (Str.ofString "(a"), V.str (Str.ofString "))"), V.str (Str.ofString ") "), V.str (Str.ofString " a")]
/-- the constants of the text -/
structure Cst (K : PySem.W.Frag) (mg : Str → Option Value) (tL : Tok) (NA : Addr) : Prop where
  lt : mg "LETTERS" = some (.str alpha tL)
  nb : mg "NEIGHBOURS" = some (.ref NA)
  sq : ∀ H : Hp, SqT K H NA nbV
theorem in_alpha (c : Nat) : (!(Builtin.Str.occurrences alpha ⟨#[c]⟩ 0 alpha.length 1).isEmpty) = low c := by
  rw [StrLaws.found_one]
  have e : alpha.cps.toList = List.range' 97 26 := by decide +kernel
  rw [e, Bool.eq_iff_iff, decide_eq_true_iff, List.mem_range'_1, low, Bool.and_eq_true, decide_eq_true_iff, decide_eq_true_iff]
  omega
theorem two_eq (s : String) {a b : Nat} (e : Str.ofString s = ⟨#[a, b]⟩) (p k : Nat) : (Str.ofString s == (⟨#[p]⟩ : Str) ++ ⟨#[k]⟩) = (p == a && k == b) := by
  rw [e, Bool.eq_iff_iff, beq_iff_eq, Bool.and_eq_true, beq_iff_eq, beq_iff_eq]
  constructor
  · intro h
    have h2 := congrArg (fun x : Str => x.cps.toList) h
    have h3 : [a, b] = [p, k] := h2
    injection h3 with h4 h5
    injection h5 with h6 _
    exact ⟨h4.symm, h6.symm⟩
  · rintro ⟨rfl, rfl⟩
    rfl
theorem in_nb (p k : Nat) : inV (.str ((⟨#[p]⟩ : Str) ++ ⟨#[k]⟩)) nbV = okL p k := by
  have e1 := two_eq "aa" (a := 97) (b := 97) (by decide +kernel) p k
  have e2 := two_eq "a(" (a := 97) (b := 40) (by decide +kernel) p k
  have e3 := two_eq "a)" (a := 97) (b := 41) (by decide +kernel) p k
  have e4 := two_eq "a " (a := 97) (b := 32) (by decide +kernel) p k
  have e5 := two_eq "(a" (a := 40) (b := 97) (by decide +kernel) p k
  have e6 := two_eq "))" (a := 41) (b := 41) (by decide +kernel) p k
  have e7 := two_eq ") " (a := 41) (b := 32) (by decide +kernel) p k
  have e8 := two_eq " a" (a := 32) (b := 97) (by decide +kernel) p k
  unfold inV nbV
  simp only [List.any_cons, List.any_nil, eqV, e1, e2, e3, e4, e5, e6, e7, e8]
  rw [Bool.eq_iff_iff]
  simp only [okL, Bool.or_eq_true, Bool.and_eq_true, beq_iff_eq, Bool.or_false, Bool.false_eq_true, or_false]
  omega
theorem p40 : Str.ofString "(" = ⟨#[40]⟩ := by decide +kernel
theorem p41 : Str.ofString ")" = ⟨#[41]⟩ := by decide +kernel
theorem p97 : Str.ofString "a" = ⟨#[97]⟩ := by decide +kernel
theorem p32 : Str.ofString " " = ⟨#[32]⟩ := by decide +kernel
section
variable {P : Program} {w : World} {K : PySem.W.Frag} {mg : Str → Option Value} {base : Heap}
/-! ### neighbours_fit -/
def spNbr : Sp := fun vs H Q _ => ∃ z : Str, vs = [.str z] ∧ asc z ∧ z.length ≤ 10000 ∧ Q (.bl (nbr 40 (z.cps.toList ++ [41]))) H
theorem scNbr : FnScope ["line", "ahead", "sign", "kind"] ["line"] (defScope sNbr) := ⟨rfl, rfl, rfl, by decide +kernel, rfl, by decide +kernel, by decide +kernel⟩
theorem ok_nbr {tL : Tok} {NA : Addr} {f : Addr} {fd : FuncData} (F : Fun K "neighbours_fit" "neighbours_fit" sNbr f fd) (C : Cst K mg tL NA) : FnOk P w K mg base CX0 3 f fd ["line"] spNbr := by
  refine F.ok scNbr (fun vs H Q E h => ?_) (fun cdv A outer s H vs Q E hr h => ?_)
  · obtain ⟨z, rfl, _⟩ := h
    rfl
  · obtain ⟨z, rfl, ha, hl, k⟩ := h
    have nd := scNbr.nd
    have big := line_big
    refine ⟨_, (pss_cons (ps_set (i := 1) nd rfl (Or.inl rfl) pe_str)
      (pss_cons (ps_for PassesOwn.never rfl (pi_str (pe_op op_add_str (pv 0) pe_str)) (pg_name (i := 2) nd rfl (Or.inl rfl))
        (pss_cons (ps_set (i := 3) nd rfl (Or.inl rfl) (pe_ifExp (pt_cmpR op_in_str (pv 2) (pe_glob (v := .str alpha) rfl C.lt ⟨_, rfl⟩) (by with_unfolding_all rfl)) pe_str (pv 2)))
        (pss_cons (ps_if (pt_cmpR op_notIn_seq (pe_op op_add_str (pv 1) (pv 3)) (pe_glob (v := .ref NA) rfl C.nb rfl) (by with_unfolding_all rfl))
          (pss_one (ps_ret pe_bl))
          pss_nil)
        (pss_one (ps_set (i := 1) nd rfl (Or.inl rfl) (pv 3))))))
      (pss_one (ps_ret pe_bl)))), ?_⟩
    have e41 : (z ++ Str.ofString ")").cps.toList = z.cps.toList ++ [41] := by
      rw [p41, Str.cps_append, Array.toList_append]
    refine ⟨_, rfl, _, _, rfl, rfl, ?_, _, rfl, ?_, for_str (fun a r σ H2 => ∃ (p : Nat) (v2 v3 : Option V), σ = [some (.str z), some (.str ⟨#[p]⟩), v2, v3] ∧ H2 = H ∧ nbr 40 (z.cps.toList ++ [41]) = nbr p r)
      ⟨40, none, none, by rw [← p40]; rfl, rfl, by rw [e41]⟩ ?_ ?_⟩
    · show z.length + 1 ≤ sizeLine
      omega
    · intro c hc
      rw [e41, List.mem_append] at hc
      rcases hc with hc | hc
      · exact ha c hc
      · rw [List.mem_singleton.mp hc]; decide
    · rintro a c r σ H2 hx ⟨p, v2, v3, rfl, rfl, e⟩
      refine ⟨_, rfl, _, _, rfl, rfl, _, rfl, ?_⟩
      rw [in_alpha]
      refine ite2 (fun hl => ?_) (fun hl => ?_)
      · have hk := kind_low hl
        refine ⟨_, rfl, _, rfl, _, _, rfl, rfl, (by show 1 + 1 ≤ sizeLine; omega), NA, nbV, rfl, .inr (C.sq _), rfl, (by decide +kernel), !okL p 97, (by rw [if_pos rfl, p97, in_nb]), ?_⟩
        rw [nbr, hk] at e
        cases ho : okL p 97 with
        | false =>
          rw [ho] at e
          rw [e] at k
          exact iteT k
        | true =>
          rw [ho] at e
          exact iteF ⟨_, rfl, 97, _, _, rfl, rfl, e⟩
      · have hk := kind_not hl
        refine ⟨_, rfl, ?_⟩
        refine ⟨_, rfl, _, rfl, _, _, rfl, rfl, (by show 1 + 1 ≤ sizeLine; omega), NA, nbV, rfl, .inr (C.sq _), rfl, (by decide +kernel), !okL p c, (by rw [if_pos rfl, in_nb]), ?_⟩
        rw [nbr, hk] at e
        cases ho : okL p c with
        | false =>
          rw [ho] at e
          rw [e] at k
          exact iteT k
        | true =>
          rw [ho] at e
          exact iteF ⟨_, rfl, c, _, _, rfl, rfl, e⟩
    · rintro σ H2 ⟨p, v2, v3, rfl, rfl, e⟩
      rw [nbr] at e
      rw [e] at k
      exact k
end
end K10
namespace K10
open PySem L2 TT TX
section
variable {P : Program} {w : World} {K : PySem.W.Frag} {mg : Str → Option Value} {base : Heap}
theorem bt_max : bootBuiltins "max" = some (.builtin "max") := by decide +kernel
/-! ### closing, joint -/
def spClosing : Sp := fun vs H Q _ => ∃ (e d : Nat), vs = [.int (e : Int), .int (d : Int)] ∧ e ≤ 1000 ∧ Q (.str ⟨(List.replicate (e - d) 41).toArray⟩) H
theorem scClosing : FnScope ["depth", "next_depth"] ["depth", "next_depth"] (defScope sClosing) := ⟨rfl, rfl, rfl, by decide +kernel, rfl, by decide +kernel, by decide +kernel⟩
theorem ok_closing {f : Addr} {fd : FuncData} (F : Fun K "closing" "closing" sClosing f fd) (T : Txt mg) : FnOk P w K mg base CX0 3 f fd ["depth", "next_depth"] spClosing := by
  refine F.ok scClosing (fun vs H Q E h => ?_) (fun cdv A outer s H vs Q E hr h => ?_)
  · obtain ⟨e, d, rfl, _⟩ := h
    rfl
  · obtain ⟨e, d, rfl, he, k⟩ := h
    refine ⟨_, (pss_one (ps_ret (pe_op op_mul_str pe_str (pe_callB (call_max2 rfl) rfl T.max bt_max (pa_cons pe_int (pa_cons (pe_op op_sub (pv 0) (pv 1)) pa_nil)))))), ?_⟩
    refine ⟨_, rfl, _, rfl, _, _, rfl, rfl, _, _, rfl, 41, ((e - d : Nat) : Int), (by rw [p41]), ?_, (by omega), (by omega), ?_⟩
    · congr 1
      by_cases h : (e : Int) - (d : Int) > 0
      · rw [if_pos h]; omega
      · rw [if_neg h]; omega
    · rw [Int.toNat_natCast]
      exact k
def spJoint : Sp := fun vs H Q _ => ∃ (e d : Nat), vs = [.int (e : Int), .int (d : Int)] ∧ e ≤ 1000 ∧ Q (.str ⟨(jn e d).toArray⟩) H
theorem scJoint : FnScope ["depth", "next_depth"] ["depth", "next_depth"] (defScope sJoint) := ⟨rfl, rfl, rfl, by decide +kernel, rfl, by decide +kernel, by decide +kernel⟩
theorem ok_joint {f : Addr} {fd : FuncData} (F : Fun K "joint" "joint" sJoint f fd) (F_closing : Ok1 P w K mg base 3 "closing" ["depth", "next_depth"] spClosing) : FnOk P w K mg base CX0 5 f fd ["depth", "next_depth"] spJoint := by
  refine F.ok scJoint (fun vs H Q E h => ?_) (fun cdv A outer s H vs Q E hr h => ?_)
  · obtain ⟨e, d, rfl, _⟩ := h
    rfl
  · obtain ⟨e, d, rfl, he, k⟩ := h
    have big := line_big
    refine ⟨_, (pss_cons (ps_if (pt_cmpR op_eq (pv 0) pe_int (nomark _))
        (pss_one (ps_ret pe_str))
        pss_nil)
      (pss_cons (ps_if (pt_cmpR op_gt (pv 1) (pv 0) (nomark _))
        (pss_one (ps_ret pe_str))
        pss_nil)
      (pss_one (ps_ret (pe_op op_add_str (pe_fn F_closing (hr.mono (by decide)) rfl (pa_cons (pv 0) (pa_cons (pv 1) pa_nil))) pe_str))))), ?_⟩
    refine ⟨_, rfl, rfl, _, rfl, ?_⟩
    refine ite2 (fun h => ?_) (fun h => ?_)
    · have h := of_decide_eq_true h
      injection h with h
      have h0 : e = 0 := by omega
      rw [jn, if_pos h0] at k
      show Q (.str (Str.ofString "")) H
      rw [sep0_eq]
      exact k
    have h0 : ¬ e = 0 := fun z => h (decide_eq_true (by rw [z]; rfl))
    refine ⟨_, rfl, _, rfl, _, _, rfl, rfl, _, rfl, ?_⟩
    refine ite2 (fun h => ?_) (fun h => ?_)
    · have h := of_decide_eq_true h
      rw [jn, if_neg h0, if_pos (by omega)] at k
      show Q (.str (Str.ofString "(")) H
      rw [p40]
      exact k
    · have h : ¬ (d : Int) > (e : Int) := fun z => h (decide_eq_true z)
      rw [jn, if_neg h0, if_neg (by omega)] at k
      refine ⟨_, rfl, _, rfl, e, d, rfl, he, _, _, rfl, rfl, ?_, ?_⟩
      · show (List.replicate (e - d) 41).toArray.size + 1 ≤ sizeLine
        rw [List.size_toArray, List.length_replicate]; omega
      · rw [mk_app, p32]
        exact k
end
end K10
namespace K10
open PySem L2 TT
section
variable {P : Program} {w : World} {K : PySem.W.Frag} {mg : Str → Option Value} {base : Heap}
/-! ### levels, trees_at -/
def spLevels : Sp := fun vs H Q _ => ∃ (G : Hp) (v u : V) (ts : List Tr) (p : List Int), vs = [v, u] ∧ Same G H ∧ Rep G v (rowD ts) ∧ Rep G u (pathD p) ∧ (down ts p).isSome = true ∧ p.length ≤ 1000 ∧
  ∀ (G' H' : Hp) (r : V), Ext G H G' H' → Rep G' r (.lst ((levelsOf ts p).map rowD)) → Q r H'
theorem scLevels : FnScope ["row", "path", "found", "place"] ["row", "path"] (defScope sLevels) := ⟨rfl, rfl, rfl, by decide +kernel, rfl, by decide +kernel, by decide +kernel⟩
theorem ok_levels {f : Addr} {fd : FuncData} (F : Fun K "levels" "levels" sLevels f fd) (T : Txt mg) (F_tu : Ok1 P w K mg base 3 "trees_under" ["tree"] spTU) : FnOk P w K mg base CX0 5 f fd ["row", "path"] spLevels := by
  refine F.ok scLevels (fun vs H Q E h => ?_) (fun cdv A outer s H vs Q E hr h => ?_)
  · obtain ⟨G, v, u, ts, p, rfl, _⟩ := h
    rfl
  · obtain ⟨G, v, u, ts, p, rfl, sm, rv, ru, hd, hp, k⟩ := h
    have nd := scLevels.nd
    have big := line_big
    obtain ⟨pa, rfl, hpa⟩ := ru.path
    refine ⟨_, (pss_cons (ps_set (i := 2) nd rfl (Or.inl rfl) (pe_lst (pa_cons (pv 0) pa_nil)))
      (pss_cons (ps_for PassesOwn.never rfl (pi_list (pv 1)) (pg_name (i := 3) nd rfl (Or.inl rfl))
        (pss_one (ps_expr (pe_bm PySem.F.plainAttrs_list PySem.F.slot_list_append PySem.F.type_list_append mt_append (pv 2) (pa_cons (pe_fn F_tu (hr.mono (by decide)) rfl (pa_cons (pe_ix ix_list (pe_ix ix_list (pv 2) (pe_un un_neg pe_int) (fun _ _ => rfl)) (pv 3) (fun _ _ => rfl)) pa_nil)) pa_nil)))))
      (pss_one (ps_ret (pv 2))))), ?_⟩
    refine ⟨_, rfl, (by show 1 ≤ sizeLine; decide), fun pf hpf => ?_⟩
    have npf : G pf = none := sm.none hpf
    have x0 : Ext G H G (upd H pf (.lst [v])) := Ext.tmp sm hpf
    have hlv : ∀ i us, i ≤ p.length → down ts (p.take i) = some us → (levelsOf ts p).take (i + 1) = (levelsOf ts p).take i ++ [us] := fun i us hi h => take_one (levelsOf_get hi h)
    refine ⟨_, rfl, pa, rfl, ⟨_, SqL.of (x0.h _ _ (sm _ _ hpa))⟩, for_list (K := K) (a := pa) (xs := p.map V.int)
      (fun i σ H2 => ∃ (G2 : Hp) (fv : List V) (z : Option V), σ = [some v, some (.ref pa), some (.ref pf), z] ∧ Ext G H G2 H2 ∧ G2 pf = none ∧ H2 pf = some (.lst fv) ∧ Reps G2 fv (((levelsOf ts p).take (i + 1)).map rowD))
      ⟨G, [v], none, rfl, x0, npf, upd_same, ?_⟩ (fun i σ H2 _ ⟨G2, _, _, _, x, _⟩ => SqL.of (x.h _ _ (sm _ _ hpa))) ?_ ?_⟩
    · rw [hlv 0 ts (Nat.zero_le _) rfl, List.take_zero, List.nil_append]
      exact .cons rv .nil
    · rintro i y σ H2 hi ⟨G2, fv, z, rfl, x, nf, hf, rf⟩
      have hil : i < p.length := by
        have := (List.getElem?_eq_some_iff.mp hi).1
        rwa [List.length_map] at this
      obtain rfl : V.int p[i] = y := by
        rw [List.getElem?_map, List.getElem?_eq_getElem hil] at hi
        exact Option.some.inj hi
      obtain ⟨us, t, hus, h0, ht, hk⟩ := down_at hd hil
      have hfl := rf.length
      rw [List.length_map, List.length_take, levelsOf_length] at hfl
      obtain ⟨lv, hlvv, rlv⟩ := rf.get (i := i) (d := rowD us) (by rw [List.getElem?_map, List.getElem?_take_of_lt (by omega), levelsOf_get (by omega) hus]; rfl)
      have hlast : atI fv (-1) = some lv := by
        unfold atI ixN
        rw [if_neg (by decide), if_pos (by omega)]
        have e : ((-1 : Int) + (fv.length : Int)).toNat = i := by omega
        rw [Option.bind_some, e, hlvv]
      obtain ⟨ua, uv, rfl, hua, rus⟩ := rlv.row
      obtain ⟨tr, htr, rtr⟩ := rus.get (i := (p[i]).toNat) (d := t.d) (by rw [List.getElem?_map, ht]; rfl)
      have hix : atI uv p[i] = some tr := by
        have := atI_nat htr
        rwa [Int.toNat_of_nonneg h0] at this
      refine ⟨_, rfl, .inl ⟨rfl, _, SqL.of hf⟩, _, rfl, _, rfl, pf, fv, _, _, rfl, rfl, SqL.of hf, hlast, _, rfl, ua, uv, _, tr, rfl, rfl, SqL.of (x.gh _ _ hua), hix, G2, tr, t, rfl, x.gh, rtr, fun G3 H3 r3 x3 rr => ?_⟩
      have hf3 := x3.h _ _ hf
      have nf3 : G3 pf = none := x3.keep hf nf
      refine ⟨pf, fv, r3, rfl, rfl, hf3, by omega, ?_⟩
      refine ⟨G3, _, _, rfl, (x.trans x3).mut nf3 hpf, nf3, upd_same, ?_⟩
      rw [hlv (i + 1) t.kids (by omega) hk, List.map_append]
      exact (rf.mono x3.g).append (.cons rr .nil)
    · rintro σ H2 ⟨G2, fv, z, rfl, x, nf, hf, rf⟩
      refine ⟨_, rfl, k _ _ _ (x.freeze nf hpf hf) (.lst upd_same ?_)⟩
      rw [List.length_map, List.take_of_length_le (by rw [levelsOf_length]; exact Nat.le_refl _)] at rf
      exact rf.mono (same_upd nf)
def spAt : Sp := fun vs H Q _ => ∃ (G : Hp) (v u : V) (ts us : List Tr) (p : List Int), vs = [v, u] ∧ Same G H ∧ Rep G v (rowD ts) ∧ Rep G u (pathD p) ∧ down ts p = some us ∧ p.length ≤ 1000 ∧
  ∀ (G' H' : Hp) (r : V), Ext G H G' H' → Rep G' r (rowD us) → Q r H'
theorem scAt : FnScope ["row", "path"] ["row", "path"] (defScope sAt) := ⟨rfl, rfl, rfl, by decide +kernel, rfl, by decide +kernel, by decide +kernel⟩
theorem ok_at {f : Addr} {fd : FuncData} (F : Fun K "trees_at" "trees_at" sAt f fd) (F_levels : Ok1 P w K mg base 5 "levels" ["row", "path"] spLevels) : FnOk P w K mg base CX0 7 f fd ["row", "path"] spAt := by
  refine F.ok scAt (fun vs H Q E h => ?_) (fun cdv A outer s H vs Q E hr h => ?_)
  · obtain ⟨G, v, u, ts, us, p, rfl, _⟩ := h
    rfl
  · obtain ⟨G, v, u, ts, us, p, rfl, sm, rv, ru, hd, hp, k⟩ := h
    refine ⟨_, (pss_one (ps_ret (pe_ix ix_list (pe_fn F_levels (hr.mono (by decide)) rfl (pa_cons (pv 0) (pa_cons (pv 1) pa_nil))) (pe_un un_neg pe_int) (fun _ _ => rfl)))), ?_⟩
    refine ⟨_, rfl, _, rfl, G, v, u, ts, p, rfl, sm, rv, ru, by rw [hd]; rfl, hp, fun G1 H1 r x rr => ?_⟩
    cases rr with
    | lst ha rl =>
      obtain ⟨lv, hlv, rlv⟩ := last_of_levels rl hd
      exact ⟨_, rfl, _, _, _, lv, rfl, rfl, SqL.of (x.gh _ _ ha), hlv, k _ _ _ x rlv⟩
/-! ### mark_at -/
def spMarkAt : Sp := fun vs H Q _ => ∃ (G : Hp) (v u : V) (ts bs : List Tr) (p : List Int) (t : Tr), vs = [v, u] ∧ Same G H ∧ Rep G v (rowD ts) ∧ Rep G u (pathD p) ∧ p ≠ [] ∧ down ts p.dropLast = some bs ∧ 0 ≤ p.getLastD 0 ∧ bs[(p.getLastD 0).toNat]? = some t ∧ p.length ≤ 1000 ∧
  ∀ (G' H' : Hp), Ext G H G' H' → Q (.str t.mark) H'
theorem scMarkAt : FnScope ["row", "path"] ["row", "path"] (defScope sMarkAt) := ⟨rfl, rfl, rfl, by decide +kernel, rfl, by decide +kernel, by decide +kernel⟩
theorem ok_markat {f : Addr} {fd : FuncData} (F : Fun K "mark_at" "mark_at" sMarkAt f fd) (F_mark : Ok1 P w K mg base 3 "mark_of" ["tree"] spMark) (F_at : Ok1 P w K mg base 7 "trees_at" ["row", "path"] spAt) : FnOk P w K mg base CX0 9 f fd ["row", "path"] spMarkAt := by
  refine F.ok scMarkAt (fun vs H Q E h => ?_) (fun cdv A outer s H vs Q E hr h => ?_)
  · obtain ⟨G, v, u, ts, bs, p, t, rfl, _⟩ := h
    rfl
  · obtain ⟨G, v, u, ts, bs, p, t, rfl, sm, rv, ru, hp, hd, h0, ht, hl, k⟩ := h
    refine ⟨_, (pss_one (ps_ret (pe_fn F_mark (hr.mono (by decide)) rfl (pa_cons (pe_ix ix_list (pe_fn F_at (hr.mono (by decide)) rfl (pa_cons (pv 0) (pa_cons (pe_slice sl_list (pv 1) po_none (po_some (pe_un un_neg pe_int))) pa_nil))) (pe_ix ix_list (pv 1) (pe_un un_neg pe_int) (fun _ _ => rfl)) (fun _ _ => rfl)) pa_nil)))), ?_⟩
    obtain ⟨pa, rfl, hpa⟩ := ru.path
    refine ⟨_, rfl, _, rfl, _, rfl, _, rfl, pa, _, rfl, SqL.of (sm _ _ hpa), fun q1 g1 => ?_⟩
    rw [front_ints]
    have y1 := Ext.add (o := .lst (p.dropLast.map V.int)) sm g1
    refine ⟨_, v, .ref q1, ts, bs, p.dropLast, rfl, y1.gh, rv.mono y1.g, .lst upd_same (ints_reps _), hd, by rw [List.length_dropLast]; omega, fun G3 H3 r3 x3 rr3 => ?_⟩
    obtain ⟨ba, bvs, rfl, hba, rbs⟩ := rr3.row
    obtain ⟨tv, htv, rtv⟩ := rbs.get (i := (p.getLastD 0).toNat) (d := t.d) (by rw [List.getElem?_map, ht]; rfl)
    have hix : atI bvs (p.getLastD 0) = some tv := by
      have := atI_nat htv
      rwa [Int.toNat_of_nonneg h0] at this
    exact ⟨_, rfl, _, rfl, pa, _, _, _, rfl, rfl, SqL.of (x3.gh _ _ (x3.g _ _ (y1.g _ _ hpa))), last_int hp, ba, bvs, _, _, rfl, rfl, SqL.of (x3.gh _ _ hba), hix, G3, tv, t, rfl, x3.gh, rtv, k _ _ (y1.trans x3)⟩
end
end K10
namespace K10
open PySem L2 TT
section
variable {P : Program} {w : World} {K : PySem.W.Frag} {mg : Str → Option Value} {base : Heap}
def LvInv (G H : Hp) (v : V) (pf : Addr) (C : List (List Int)) (m : Nat) (σ : L2.St) (H2 : Hp) : Prop := ∃ (G2 : Hp) (fv : List V) (F : List (List Int)) (pl : Addr) (lv : List V) (L : List Job) (a b c d e : Option V),
  σ = [some v, some (.ref pf), some (.ref pl), a, b, c, d, e] ∧ Ext G H G2 H2 ∧ G2 pf = none ∧ pf ≠ pl ∧ H2 pf = some (.lst fv) ∧ H2 pl = some (.lst lv) ∧ Paired (PathRel G2) fv F ∧ Paired (JobRel G2) lv L ∧
  (F ++ allOf L).Perm C ∧ L.length ≤ F.length + 1 ∧ (∀ j ∈ L, j.1.length ≤ F.length) ∧ (allOf L).length + (if L.isEmpty = true then 0 else 1) = m
/-! ### paths -/
/-- what paths promises: the paths in their order -/
def spPaths : Sp := fun vs H Q _ => ∃ (G : Hp) (v : V) (ts : List Tr), vs = [v] ∧ Same G H ∧ Rep G v (rowD ts) ∧ knotsOf ts ≤ 65 ∧
  ∀ (G' H' : Hp) (r : V), Ext G H G' H' → Rep G' r (.lst ((pps 0 ts).map pathD)) → Q r H'
theorem scPaths : FnScope ["row", "found", "level", "deeper", "path", "trees", "place", "tree"] ["row"] (defScope sPaths) := ⟨rfl, rfl, rfl, by decide +kernel, rfl, by decide +kernel, by decide +kernel⟩
theorem ok_paths {f : Addr} {fd : FuncData} (F : Fun K "paths" "paths" sPaths f fd) (T : Txt mg) (F_tu : Ok1 P w K mg base 3 "trees_under" ["tree"] spTU) : FnOk P w K mg base CX0 7 f fd ["row"] spPaths := by
  refine F.ok scPaths (fun vs H Q E h => ?_) (fun cdv A outer s H vs Q E hr h => ?_)
  · obtain ⟨G, v, ts, rfl, _⟩ := h
    rfl
  · obtain ⟨G, v, ts, rfl, sm, rv, h64, k⟩ := h
    have nd := scPaths.nd
    have nd2 : (["path", "trees"] : List Str).Nodup := by decide +kernel
    have hu2 := (hr.in1.in1).units0
    have big := line_big
    refine ⟨_, (pss_cons (ps_set (i := 1) nd rfl (Or.inl rfl) (pe_lst pa_nil))
      (pss_cons (ps_set (i := 2) nd rfl (Or.inl rfl) (pe_lst (pa_cons (pe_tup (pa_cons (pe_lst pa_nil) (pa_cons (pv 0) pa_nil))) pa_nil)))
      (pss_cons (ps_while PassesOwn.never (pt_truth (pv 2) (fun _ => rfl))
        (pss_cons (ps_set (i := 3) nd rfl (Or.inl rfl) (pe_lst pa_nil))
        (pss_cons (ps_for PassesOwn.never rfl (pi_list (pv 2)) (pg_tup rfl (pgs_cons (pg_name (i := 4) nd rfl (Or.inl rfl)) (pgs_cons (pg_name (i := 5) nd rfl (Or.inl rfl)) pgs_nil)))
          (pss_one (ps_for PassesOwn.never rfl (pi_enum rfl T.enumerate (pa_cons (pv 5) pa_nil)) (pg_tup rfl (pgs_cons (pg_name (i := 6) nd rfl (Or.inl rfl)) (pgs_cons (pg_name (i := 7) nd rfl (Or.inl rfl)) pgs_nil)))
            (pss_one (ps_expr (pe_bm PySem.F.plainAttrs_list PySem.F.slot_list_append PySem.F.type_list_append mt_append (pv 3) (pa_cons (pe_tup (pa_cons (pe_op op_cat (pv 4) (pe_lst (pa_cons (pv 6) pa_nil))) (pa_cons (pe_fn F_tu (hr.mono (by decide)) rfl (pa_cons (pv 7) pa_nil)) pa_nil))) pa_nil)))))))
        (pss_cons (ps_expr (pe_bm PySem.F.plainAttrs_list PySem.F.slot_list_extend PySem.F.type_list_extend mt_extend (pv 1) (pa_cons
          (pe_comp (N := ["path", "trees"]) (g := gTup K 2 (gCons (gName 0) (gCons (gName 1) gNil))) (te := tVar 0) rfl (pi_list (pv 3)) (by decide +kernel) (by decide +kernel) rfl (by decide +kernel) (fun C s2 H2 fp => pg_tup rfl (pgs_cons (pg_name (i := 0) nd2 rfl (Or.inl rfl) (.inr rfl)) (pgs_cons (pg_name (i := 1) nd2 rfl (Or.inl rfl) (.inr rfl)) pgs_nil))) (fun C s2 H2 fp => pv 0)) pa_nil)))
        (pss_one (ps_set (i := 2) nd rfl (Or.inl rfl) (pv 3)))))))
      (pss_one (ps_ret (pe_callB (call_sorted65 hu2) rfl T.sorted bt_sorted (pa_cons (pv 1) pa_nil))))))), ?_⟩
    have hC : (pps 0 ts).length ≤ 65 := by rw [pps_length]; exact h64
    -- found = []; level = [([], row)]
    refine ⟨Nat.zero_le _, fun pf hpf => ⟨Nat.zero_le _, fun pp hpp => ⟨_, rfl, by show 2 ≤ sizeLine; decide, fun q0 hq0 => ⟨by show 1 ≤ sizeLine; decide, fun pl hpl => ?_⟩⟩⟩⟩
    have npf : G pf = none := sm.none hpf
    have y0 : Ext G (upd H pf (.lst [])) G (upd H pf (.lst [])) := Ext.refl (sm.trans (same_upd hpf))
    have y1 := y0.trans (Ext.add (o := .lst []) y0.gh hpp)
    have y2 := y1.trans (Ext.add (o := .tup [.ref pp, v]) y1.gh hq0)
    have y3 := y2.trans (Ext.tmp (o := .lst [.ref q0]) y2.gh hpl)
    have x0 : Ext G H G (upd H pf (.lst [])) := Ext.tmp sm hpf
    have x3 := x0.trans y3
    refine ⟨LvInv G H v pf (pps 0 ts), ⟨_, _, [], [], pl, [.ref q0], [([], ts)], none, none, none, none, none, rfl, x3, y3.keep upd_same npf, ne_of_none (y2.h _ _ upd_same) hpl, y3.h _ _ upd_same, upd_same, .nil,
      .cons ⟨q0, _, _, rfl, upd_same, .lst ((Ext.add (o := .tup [.ref pp, v]) y1.gh hq0).g _ _ upd_same) .nil, rv.mono y2.g⟩ .nil, ?_, by simp, ?_, rfl⟩, ?_⟩
    · rw [List.nil_append, allOf_cons, allOf_nil, List.append_nil]
      exact List.Perm.of_eq (by unfold Job.all; simp)
    · intro j hj
      have : j = ([], ts) := by simpa using hj
      subst this
      exact Nat.le_refl _
    rintro m σ H2 ⟨G2, fv, Fo, pl, lv, L, z3, z4, z5, z6, z7, rfl, x, nf, hne, hf2, hl2, hF, hL, hperm, hlen, hdeep, hm⟩
    have hFC : Fo.length + (allOf L).length ≤ 65 := by
      have := hperm.length_eq
      rw [List.length_append] at this
      omega
    have hfl := paired_length hF
    have hll := paired_length hL
    -- while level
    refine ⟨_, rfl, !lv.isEmpty, .inl ⟨lv, SqL.of hl2, rfl⟩, ?_⟩
    cases he : lv.isEmpty with
    | true =>
      refine iteF ?_
      have e1 : lv = [] := List.isEmpty_iff.mp he
      subst e1
      cases hL
      rw [allOf_nil, List.append_nil] at hperm
      refine ⟨_, rfl, pf, fv, Fo, PathRel G2, rfl, SqL.of hf2, hF, fun v' q' r' => rel_path x.gh r', by omega, fun l vs' ps' hl hR hp hri => ?_⟩
      have x2 := x.trans (Ext.add (o := .lst vs') x.gh hl)
      have ep : ps' = pps 0 ts := sorted_pps (hp.trans hperm) hri
      subst ep
      exact k _ _ _ x2 (.lst upd_same (paths_reps (paired_mono (fun _ _ z => z.mono (Ext.add (o := .lst vs') x.gh hl).g) hR)))
    | false =>
      refine iteT ⟨fun σ' H' => ∃ m', m' < m ∧ LvInv G H v pf (pps 0 ts) m' σ' H', fun _ _ z => z, ?_⟩
      have hLne : L.isEmpty = false := by
        cases L with
        | nil => cases hL; simp at he
        | cons _ _ => rfl
      have hdl := (deeper_perm L).length_eq
      rw [List.length_append, List.length_map] at hdl
      -- deeper = []
      refine ⟨Nat.zero_le _, fun pd hpd => ?_⟩
      have hpdH : H pd = none := x.h.none hpd
      have npd : G2 pd = none := x.gh.none hpd
      have nlf : pl ≠ pd := ne_of_none hl2 hpd
      have nff : pf ≠ pd := ne_of_none hf2 hpd
      have x1 := x.trans (Ext.tmp (o := .lst []) x.gh hpd)
      -- for path, trees in level
      refine ⟨_, rfl, pl, rfl, ⟨_, SqL.of (same_upd hpd _ _ hl2)⟩, for_list (K := K) (a := pl) (xs := lv)
        (fun i σ H3 => ∃ (G3 : Hp) (dv : List V) (b4 b5 b6 b7 : Option V), σ = [some v, some (.ref pf), some (.ref pl), some (.ref pd), b4, b5, b6, b7] ∧ Ext G H G3 H3 ∧ Same G2 G3 ∧ G3 pf = none ∧ G3 pd = none ∧ H3 pf = some (.lst fv) ∧ H3 pl = some (.lst lv) ∧ H3 pd = some (.lst dv) ∧
          Paired (JobRel G3) dv (deeper (L.take i)))
        ⟨G2, [], _, _, _, _, rfl, x1, Same.refl _, nf, npd, same_upd hpd _ _ hf2, same_upd hpd _ _ hl2, upd_same, .nil⟩ (fun i σ H3 _ ⟨_, _, _, _, _, _, _, _, _, _, _, _, h, _⟩ => SqL.of h) ?_ ?_⟩
      · rintro i y σ H3 hi ⟨G3, dv, b4, b5, b6, b7, rfl, x3, s23, nf3, nd3, hf3, hl3, hd3, hD⟩
        have hil : i < lv.length := (List.getElem?_eq_some_iff.mp hi).1
        have hiL : i < L.length := by omega
        obtain ⟨q, v1, v2, rfl, hq, r1, r2⟩ := paired_get hL hi (List.getElem?_eq_getElem hiL)
        have hmem : L[i] ∈ L := List.getElem_mem hiL
        have hj1 := hdeep _ hmem
        have hcut : L.take (i + 1) = L.take i ++ [L[i]] := take_one (List.getElem?_eq_getElem hiL)
        have hdn : (deeper (L.take i)).length + L[i].2.length ≤ (deeper L).length := by
          have e1 : deeper L = deeper (L.take (i + 1)) ++ deeper (L.drop (i + 1)) := by
            unfold deeper
            rw [← List.flatMap_append, List.take_append_drop]
          have e2 := congrArg List.length e1
          rw [hcut, deeper_snoc, List.length_append, List.length_append, subs_length] at e2
          omega
        generalize L[i] = j at r1 r2 hj1 hcut hdn
        obtain ⟨p, us⟩ := j
        replace hj1 : p.length ≤ Fo.length := hj1
        replace hdn : (deeper (L.take i)).length + us.length ≤ (deeper L).length := hdn
        obtain ⟨pa, rfl, hpa⟩ := Rep.path r1
        obtain ⟨ta, uvs, rfl, hta, rus⟩ := r2.row
        have hul : uvs.length = us.length := by
          have h := rus.length
          rw [List.length_map] at h
          exact h
        refine ⟨q, _, rfl, SqT.of (x3.gh _ _ (s23 _ _ hq)), rfl, _, _, rfl, _, _, rfl, rfl, ?_⟩
        -- for place, tree in enumerate(trees)
        refine ⟨_, rfl, ta, rfl, ⟨_, SqL.of (x3.gh _ _ (s23 _ _ hta))⟩, for_enum (K := K) (a := ta) (xs := uvs)
          (fun i2 σ H4 => ∃ (G4 : Hp) (dv4 : List V) (c6 c7 : Option V), σ = [some v, some (.ref pf), some (.ref pl), some (.ref pd), some (.ref pa), some (.ref ta), c6, c7] ∧ Ext G H G4 H4 ∧ Same G2 G4 ∧ G4 pf = none ∧ G4 pd = none ∧ H4 pf = some (.lst fv) ∧ H4 pl = some (.lst lv) ∧ H4 pd = some (.lst dv4) ∧
            Paired (JobRel G4) dv4 (deeper (L.take i) ++ (subs p 0 us).take i2))
          ⟨G3, dv, _, _, rfl, x3, s23, nf3, nd3, hf3, hl3, hd3, by simpa using hD⟩ (fun i2 σ H4 _ ⟨_, _, _, _, _, x4, s24, _⟩ => SqL.of (x4.gh _ _ (s24 _ _ hta))) ?_ ?_⟩
        · rintro i2 y2 σ H4 pq hi2 ⟨G4, dv4, c6, c7, rfl, x4, s24, nf4, nd4, hf4, hl4, hd4, hD4⟩ hpq
          have hi2u : i2 < us.length := by have := (List.getElem?_eq_some_iff.mp hi2).1; omega
          have hsi : (subs p 0 us)[i2]? = some (p ++ [(i2 : Int)], us[i2].kids) := by
            have := subs_at p us 0 i2 hi2u
            rwa [Nat.zero_add] at this
          obtain ⟨dd, hdd, rtr⟩ := rus.at hi2
          rw [List.getElem?_map, List.getElem?_eq_getElem hi2u] at hdd
          cases Option.some.inj hdd
          have hdl4 := paired_length hD4
          rw [List.length_append, List.length_take, subs_length] at hdl4
          have o4 : Ext G4 H4 G4 H4 := Ext.refl x4.gh
          have o5 := o4.trans (Ext.tmp (o := .tup [V.int (i2 : Int), y2]) o4.gh hpq)
          refine ⟨pq, _, rfl, SqT.of upd_same, rfl, _, _, rfl, _, _, rfl, rfl, ?_⟩
          -- deeper.append((path + [place], trees_under(tree)))
          refine ⟨_, rfl, .inl ⟨rfl, _, SqL.of (o5.h _ _ hd4)⟩, _, rfl, _, rfl, by show 1 ≤ sizeLine; decide, fun a1 h1 => ⟨pa, a1, _, _, rfl, rfl, same_upd h1 _ _ (o5.gh _ _ (s24 _ _ hpa)), upd_same, by rw [List.length_map]; show p.length + 1 ≤ sizeLine; omega, fun a2 h2 => ?_⟩⟩
          have o6 := o5.trans (Ext.tmp (o := .lst [V.int (i2 : Int)]) o5.gh h1)
          have o7 := o6.trans (Ext.add (o := .lst (p.map V.int ++ [V.int (i2 : Int)])) o6.gh h2)
          refine ⟨_, rfl, _, y2, us[i2], rfl, o7.gh, (rtr.mono s24).mono o7.g, fun G8 H8 r8 x8 rr8 => ⟨by show 2 ≤ sizeLine; decide, fun b5 hb5 => ?_⟩⟩
          have o8 := o7.trans x8
          have o9 := o8.trans (Ext.add (o := .tup [.ref a2, r8]) o8.gh hb5)
          refine ⟨pd, dv4, _, rfl, rfl, o9.h _ _ hd4, by omega, ?_⟩
          have nd9 := o9.keep hd4 nd4
          refine ⟨_, dv4 ++ [V.ref b5], _, _, rfl, (x4.trans o9).mut nd9 hpdH, s24.trans o9.g, o9.keep hf4 nf4, nd9, ?_, ?_, upd_same, ?_⟩
          · rw [upd_ne nff]; exact o9.h _ _ hf4
          · rw [upd_ne nlf]; exact o9.h _ _ hl4
          · rw [take_one hsi, ← List.append_assoc]
            have s89 : Same G8 (upd G8 b5 (.tup [.ref a2, r8])) := same_upd (o8.gh.none hb5)
            refine paired_app (paired_mono (fun _ _ r => r.mono o9.g) hD4) (.cons ⟨b5, _, _, rfl, upd_same, .lst (s89 _ _ (x8.g _ _ upd_same)) ?_, rr8.mono s89⟩ .nil)
            rw [← List.map_singleton (f := V.int), ← List.map_append]
            exact ints_reps _
        · rintro σ H4 ⟨G4, dv4, c6, c7, rfl, x4, s24, nf4, nd4, hf4, hl4, hd4, hD4⟩
          rw [List.take_of_length_le (l := subs p 0 us) (by rw [subs_length]; omega)] at hD4
          exact ⟨G4, dv4, _, _, _, _, rfl, x4, s24, nf4, nd4, hf4, hl4, hd4, by rw [hcut, deeper_snoc]; exact hD4⟩
      · rintro σ H3 ⟨G3, dv, b4, b5, b6, b7, rfl, x3, s23, nf3, nd3, hf3, hl3, hd3, hD⟩
        rw [hll, List.take_length] at hD
        obtain ⟨fs, hfs, hps⟩ := jobs_firsts hD
        have hdl3 := paired_length hD
        have hfsl := paired_length hfs
        -- found.extend([path for path, trees in deeper])
        refine ⟨_, rfl, .inl ⟨rfl, _, SqL.of hf3⟩, _, rfl, pd, rfl, ⟨_, SqL.of hd3⟩, fun acc hacc => ?_⟩
        have nad : pd ≠ acc := ne_of_none hd3 hacc
        refine ⟨fun i mm H4 ys => mm = dv.length - i ∧ i ≤ dv.length ∧ ys = fs.take i ∧ H4 = upd H3 acc (.lst (fs.take i)), ⟨_, rfl, Nat.zero_le _, rfl, rfl⟩, ?_⟩
        rintro i mm H4 ys ⟨rfl, hi, rfl, rfl⟩ hya
        have hd4 : upd H3 acc (.lst (fs.take i)) pd = some (.lst dv) := by rw [upd_ne nad]; exact hd3
        by_cases hlt : i < dv.length
        · refine .inr ⟨⟨dv, dv[i], SqL.of hd4, List.getElem?_eq_getElem hlt⟩, by rw [List.length_take]; omega, fun x4 H5 y => ?_⟩
          obtain ⟨rfl, hy⟩ := y
          have e4 := hy dv (SqL.of hd4)
          have hif : i < fs.length := by omega
          obtain ⟨q, s2, rfl, hq⟩ := paired_get hfs e4 (List.getElem?_eq_getElem hif)
          have hqa : upd H3 acc (.lst (fs.take i)) q = some (.tup [fs[i], s2]) := by
            rw [upd_ne (ne_of_none (x3.gh _ _ hq) hacc)]
            exact x3.gh _ _ hq
          refine ⟨q, _, rfl, SqT.of hqa, rfl, _, _, rfl, _, _, rfl, rfl, _, rfl, hya, dv.length - (i + 1), by omega, rfl, hlt, (take_one (List.getElem?_eq_getElem hif)).symm, ?_⟩
          rw [upd_upd, take_one (List.getElem?_eq_getElem hif)]
        · have ei : i = dv.length := by omega
          subst ei
          refine .inl ⟨⟨dv, SqL.of hd4, Nat.le_refl _⟩, ?_⟩
          rw [List.take_of_length_le (by omega)] at hd4 ⊢
          have hf4 : upd H3 acc (.lst fs) pf = some (.lst fv) := by rw [upd_ne (ne_of_none hf3 hacc)]; exact hf3
          refine ⟨pf, acc, fv, fs, rfl, rfl, hf4, upd_same, by omega, ?_⟩
          -- level = deeper
          refine ⟨_, rfl, (allOf (deeper L)).length + (if (deeper L).isEmpty = true then 0 else 1), ?_, G3, fv ++ fs, Fo ++ (deeper L).map (·.1), pd, dv, deeper L, _, _, _, _, _, rfl, (x3.trans (Ext.tmp x3.gh hacc)).mut nf3 hpf, nf3, nff, upd_same, ?_, paired_app (paired_mono (fun _ _ r => r.mono s23) hF) hps, hD, turn_level hperm, ?_, ?_, rfl⟩
          · rw [hLne] at hm
            simp only [Bool.false_eq_true, if_false] at hm
            cases hde : (deeper L).isEmpty with
            | true => simp only [if_true]; omega
            | false =>
              have : 1 ≤ (deeper L).length := by
                cases hdd : deeper L with
                | nil => rw [hdd] at hde; simp at hde
                | cons _ _ => simp
              simp only [Bool.false_eq_true, if_false]
              omega
          · rw [upd_ne (Ne.symm nff)]; exact hd4
          · rw [List.length_append, List.length_map]; omega
          · intro j hj
            have := deeper_len hdeep j hj
            rw [List.length_append, List.length_map]
            exact this
end
end K10
namespace K10
open PySem L2 TT TX
/-- between two knots of shown -/
inductive ShInv (G H : Hp) (v : V) (ts : List Tr) (i : Nat) (σ : L2.St) (H2 : Hp) : Prop
  | mk (G2 : Hp) (z : Option V) (e : σ = [some v, some (.str ⟨(((knR 1 ts).take i).foldl stp ([], 0)).1.toArray⟩), some (.int ((((knR 1 ts).take i).foldl stp ([], 0)).2 : Int)), z]) (x : Ext G H G2 H2) : ShInv G H v ts i σ H2
theorem stp_len : ∀ (l : List (Nat × Str)) (s : List Nat × Nat), s.2 ≤ 1000 → (∀ k ∈ l, k.1 ≤ 1000 ∧ k.2.length ≤ 28) → (l.foldl stp s).2 ≤ 1000 ∧ (l.foldl stp s).1.length ≤ s.1.length + 1029 * l.length
  | [], s, h, _ => ⟨h, by simp⟩
  | k :: l, s, h, hk => by
    obtain ⟨h1, h2⟩ := hk k List.mem_cons_self
    have hj : (jn s.2 k.1).length ≤ 1001 := by
      unfold jn
      split
      · simp
      · split
        · simp
        · simp only [List.length_append, List.length_replicate, List.length_singleton]; omega
    have h3 : k.2.cps.toList.length = k.2.length := by simp [Str.length]
    obtain ⟨a, b⟩ := stp_len l (stp s k) (show k.1 ≤ 1000 from h1) fun k' hk' => hk k' (List.mem_cons_of_mem _ hk')
    refine ⟨a, Nat.le_trans b ?_⟩
    simp only [stp, List.length_append, List.length_cons]
    omega
section
variable {P : Program} {w : World} {K : PySem.W.Frag} {mg : Str → Option Value} {base : Heap}
/-! ### shown -/
def spShown : Sp := fun vs H Q _ => ∃ (G : Hp) (v : V) (ts : List Tr), vs = [v] ∧ Same G H ∧ Rep G v (rowD ts) ∧ knotsOf ts ≤ 65 ∧ TT.wordsOf ts ∧
  ∀ H' : Hp, Same H H' → Q (.str ⟨(txts false ts).toArray⟩) H'
theorem scShown : FnScope ["row", "line", "depth", "path"] ["row"] (defScope sShown) := ⟨rfl, rfl, rfl, by decide +kernel, rfl, by decide +kernel, by decide +kernel⟩
theorem knR_le : ∀ (n : Nat) (ts : List Tr) (d : Nat), knotsOf ts ≤ n → TT.wordsOf ts → ∀ k ∈ knR d ts, k.1 ≤ d + knotsOf ts ∧ k.2.length ≤ 28
  | _, [], _, _, _, k, hk => by simp [knR] at hk
  | 0, t :: ts, _, hn, _, _, _ => by rw [knotsOf, knots_eq] at hn; omega
  | n + 1, .node m ks :: ts, d, hn, hw, k, hk => by
    rw [knotsOf, Tr.knots] at hn ⊢
    rw [TT.wordsOf, Tr.words] at hw
    rw [knR, knT] at hk
    rcases List.mem_append.mp hk with hk | hk
    · rcases List.mem_cons.mp hk with rfl | hk
      · exact ⟨by show d ≤ _; omega, hw.1.1.2.1⟩
      · obtain ⟨a, b⟩ := knR_le n ks (d + 1) (by omega) hw.1.2 k hk
        exact ⟨by omega, b⟩
    · obtain ⟨a, b⟩ := knR_le n ts d (by omega) hw.2 k hk
      exact ⟨by omega, b⟩
theorem ok_shown {f : Addr} {fd : FuncData} (F : Fun K "shown" "shown" sShown f fd) (T : Txt mg) (F_paths : Ok1 P w K mg base 7 "paths" ["row"] spPaths) (F_joint : Ok1 P w K mg base 5 "joint" ["depth", "next_depth"] spJoint)
    (F_markat : Ok1 P w K mg base 9 "mark_at" ["row", "path"] spMarkAt) (F_closing : Ok1 P w K mg base 3 "closing" ["depth", "next_depth"] spClosing) : FnOk P w K mg base CX0 11 f fd ["row"] spShown := by
  refine F.ok scShown (fun vs H Q E h => ?_) (fun cdv A outer s H vs Q E hr h => ?_)
  · obtain ⟨G, v, ts, rfl, _⟩ := h
    rfl
  · obtain ⟨G, v, ts, rfl, sm, rv, hk, hw, k⟩ := h
    have nd := scShown.nd
    have big := line_big
    refine ⟨_, (pss_cons (ps_set (i := 1) nd rfl (Or.inl rfl) pe_str)
      (pss_cons (ps_set (i := 2) nd rfl (Or.inl rfl) pe_int)
      (pss_cons (ps_for PassesOwn.never rfl (pi_list (pe_fn F_paths (hr.mono (by decide)) rfl (pa_cons (pv 0) pa_nil))) (pg_name (i := 3) nd rfl (Or.inl rfl))
        (pss_cons (ps_aug (i := 1) nd rfl (Or.inl rfl) (pe_op op_add_str (pe_fn F_joint (hr.mono (by decide)) rfl (pa_cons (pv 2) (pa_cons (pe_callB call_len_seq rfl T.len bt_len (pa_cons (pv 3) pa_nil)) pa_nil))) (pe_fn F_markat (hr.mono (by decide)) rfl (pa_cons (pv 0) (pa_cons (pv 3) pa_nil)))) iop_add_str)
        (pss_one (ps_set (i := 2) nd rfl (Or.inl rfl) (pe_callB call_len_seq rfl T.len bt_len (pa_cons (pv 3) pa_nil))))))
      (pss_one (ps_ret (pe_op op_add_str (pv 1) (pe_fn F_closing (hr.mono (by decide)) rfl (pa_cons (pv 2) (pa_cons pe_int pa_nil))))))))), ?_⟩
    have hpl := pps_length 0 ts
    have hkl : (knR 1 ts).length = knotsOf ts := by rw [← knots_pps, List.length_map, hpl]
    have hkb := knR_le _ ts 1 (Nat.le_refl _) hw
    have hst : ∀ i, (((knR 1 ts).take i).foldl stp ([], 0)).2 ≤ 1000 ∧ (((knR 1 ts).take i).foldl stp ([], 0)).1.length ≤ 70000 := fun i => by
      obtain ⟨a, b⟩ := stp_len ((knR 1 ts).take i) ([], 0) (Nat.zero_le _) fun k hk => by
        obtain ⟨h1, h2⟩ := hkb k (List.mem_of_mem_take hk)
        exact ⟨by omega, h2⟩
      refine ⟨a, Nat.le_trans b ?_⟩
      rw [List.length_take]
      simp only [List.length_nil]
      omega
    refine ⟨_, rfl, G, v, ts, rfl, sm, rv, hk, fun G1 H1 r x1 rr => ?_⟩
    cases rr with
    | @lst oa ovs _ hoa rov =>
    have hol := rov.length
    rw [List.length_map, hpl] at hol
    refine ⟨oa, rfl, ⟨_, SqL.of (x1.gh _ _ hoa)⟩, for_list (K := K) (a := oa) (xs := ovs) (fun i σ H2 => i ≤ ovs.length ∧ ShInv G1 H1 v ts i σ H2) ⟨Nat.zero_le _, G1, none, rfl, Ext.refl x1.gh⟩
      (fun i σ H2 _ ⟨_, _, _, _, x⟩ => SqL.of (x.h _ _ (x1.gh _ _ hoa))) ?_ ?_⟩
    · rintro i y σ H2 hi ⟨_, G2, z, rfl, x⟩
      have hil : i < ovs.length := (List.getElem?_eq_some_iff.mp hi).1
      obtain ⟨d, hd, rd⟩ := rov.at hi
      have hip : i < (pps 0 ts).length := by omega
      rw [List.getElem?_map, List.getElem?_eq_getElem hip] at hd
      cases hd
      have hmem : (pps 0 ts)[i] ∈ pps 0 ts := List.getElem_mem hip
      obtain ⟨bs, t, hne, hdn, h0, ht, hmk⟩ := path_knot hmem
      have hki : (knR 1 ts)[i]? = some ((pps 0 ts)[i].length, t.mark) := by
        rw [← knots_pps, List.getElem?_map, List.getElem?_eq_getElem hip]
        exact congrArg some hmk
      have htake : (knR 1 ts).take (i + 1) = (knR 1 ts).take i ++ [((pps 0 ts)[i].length, t.mark)] := by
        rw [List.take_add_one, hki]; rfl
      obtain ⟨hb1, hb2⟩ := hkb _ (List.mem_of_getElem? hki)
      have hb1 : (pps 0 ts)[i].length ≤ 1 + knotsOf ts := hb1
      have hb2 : t.mark.length ≤ 28 := hb2
      obtain ⟨hs1, hs2⟩ := hst i
      obtain ⟨pa, rfl, hpa⟩ := (rd.mono x.g).path
      obtain ⟨q, hq⟩ : ∃ q, ((knR 1 ts).take i).foldl stp ([], 0) = q := ⟨_, rfl⟩
      rw [hq] at hs1 hs2 ⊢
      have hpaH := x.gh _ _ hpa
      have hjl : (jn q.2 (pps 0 ts)[i].length).length ≤ 1001 := by
        unfold jn
        split
        · simp
        · split
          · simp
          · simp only [List.length_append, List.length_replicate, List.length_singleton]; omega
      refine ⟨_, rfl, _, rfl, _, rfl, pa, _, rfl, .inl (SqL.of hpaH), q.2, (pps 0 ts)[i].length, (by rw [List.length_map]; rfl), hs1, ?_⟩
      refine ⟨_, rfl, _, rfl, G2, v, .ref pa, ts, bs, (pps 0 ts)[i], t, rfl, x.gh, (rv.mono x1.g).mono x.g, .lst hpa (ints_reps _), hne, hdn, h0, ht, by omega, fun G3 H3 x3 => ?_⟩
      refine ⟨_, _, rfl, rfl, ?_, _, _, rfl, rfl, ?_, ?_⟩
      · rw [len_mk]; omega
      · rw [len_mk, Str.length_append, len_mk]; omega
      · refine ⟨_, rfl, pa, _, rfl, .inl (SqL.of (x3.h _ _ hpaH)), ⟨by omega, G3, some (.ref pa), ?_, x.trans x3⟩⟩
        rw [htake, List.foldl_append, hq, mk_app, mk_app, List.length_map]
        simp [stp]
    · rintro σ H2 ⟨_, G2, z, rfl, x⟩
      have hall : (knR 1 ts).take ovs.length = knR 1 ts := List.take_of_length_le (by omega)
      obtain ⟨hs1, hs2⟩ := hst ovs.length
      rw [hall] at hs1 hs2 ⊢
      have key := run_all ts
      generalize (knR 1 ts).foldl stp ([], 0) = q at *
      refine ⟨_, rfl, _, rfl, q.2, 1, rfl, hs1, _, _, rfl, rfl, ?_, ?_⟩
      · rw [len_mk, len_mk, List.length_replicate]; omega
      · rw [mk_app]
        show Q (.str ⟨(q.1 ++ List.replicate (q.2 - 1) 41).toArray⟩) H2
        rw [key]
        exact k _ (x1.h.trans x.h)
end
end K10
namespace K10
open PySem L2 TT
/-- between two turns of _law_so -/
def SoInv (H : Hp) (v u : V) (pt : Addr) (n m : Nat) (σ : L2.St) (H2 : Hp) : Prop := ∃ (G2 : Hp) (tv : List V) (ds : List D) (a b c : Option V), σ = [some v, some u, some (.ref pt), a, b, c] ∧ Same G2 H2 ∧ Same H H2 ∧ G2 pt = none ∧ H2 pt = some (.lst tv) ∧
  Paired (PairRel G2) tv ds ∧ sizes ds = m ∧ m ≤ n
section
variable {P : Program} {w : World} {K : PySem.W.Frag} {mg : Str → Option Value} {base : Heap}
/-! ### _law_so -/
def spSo : Sp := fun vs H Q _ => ∃ (G : Hp) (v u : V) (d : D), vs = [v, u] ∧ Same G H ∧ Rep G v d ∧ Rep G u d ∧ d.size ≤ 100000 ∧ ∀ H' : Hp, Same H H' → Q (.bl true) H'
theorem scSo : FnScope ["_law_found", "_law_due", "_law_todo", "_law_one", "_law_other", "_law_k"] ["_law_found", "_law_due"] (defScope sSo) := ⟨rfl, rfl, rfl, by decide +kernel, rfl, by decide +kernel, by decide +kernel⟩
theorem ok_so {f : Addr} {fd : FuncData} (F : Fun K "_law_so" "_law_so" sSo f fd) (T : Txt mg) : FnOk P w K mg base CX0 5 f fd ["_law_found", "_law_due"] spSo := by
  refine F.ok scSo (fun vs H Q E h => ?_) (fun cdv A outer s H vs Q E hr h => ?_)
  · obtain ⟨G, v, u, d, rfl, _⟩ := h
    rfl
  · obtain ⟨G, v, u, d, rfl, sm, rv, ru, hsz, k⟩ := h
    have nd := scSo.nd
    have hu := hr.units0
    have big := line_big
    refine ⟨_, (pss_cons (ps_set (i := 2) nd rfl (Or.inl rfl) (pe_lst (pa_cons (pe_tup (pa_cons (pv 0) (pa_cons (pv 1) pa_nil))) pa_nil)))
      (pss_cons (ps_while PassesOwn.never (pt_cmpR (op_neE hu) (pv 2) (pe_lst pa_nil) (nomark _))
        (pss_cons (ps_asg (pe_bm0 PySem.F.plainAttrs_list PySem.F.slot_list_pop PySem.F.type_list_pop mt_pop (pv 2)) (pg_tup rfl (pgs_cons (pg_name (i := 3) nd rfl (Or.inl rfl)) (pgs_cons (pg_name (i := 4) nd rfl (Or.inl rfl)) pgs_nil))))
        (pss_one (ps_if (pt_val (pe_callB call_isi2 rfl T.isinstance bt_isinstance (pa_cons (pv 4) (pa_cons (pe_tup (pa_cons (pe_ty rfl T.list bt_list) (pa_cons (pe_ty rfl T.tuple bt_tuple) pa_nil))) pa_nil))))
          (pss_cons (ps_if (pt_cmpR op_ne (pe_callB call_isi rfl T.isinstance bt_isinstance (pa_cons (pv 3) (pa_cons (pe_ty rfl T.list bt_list) pa_nil))) (pe_callB call_isi rfl T.isinstance bt_isinstance (pa_cons (pv 4) (pa_cons (pe_ty rfl T.list bt_list) pa_nil))) (nomark _))
            (pss_one (ps_ret pe_bl))
            pss_nil)
          (pss_cons (ps_if (pt_cmpR op_ne (pe_callB call_isi rfl T.isinstance bt_isinstance (pa_cons (pv 3) (pa_cons (pe_ty rfl T.tuple bt_tuple) pa_nil))) (pe_callB call_isi rfl T.isinstance bt_isinstance (pa_cons (pv 4) (pa_cons (pe_ty rfl T.tuple bt_tuple) pa_nil))) (nomark _))
            (pss_one (ps_ret pe_bl))
            pss_nil)
          (pss_cons (ps_if (pt_cmpR op_ne (pe_callB call_len_seq rfl T.len bt_len (pa_cons (pv 3) pa_nil)) (pe_callB call_len_seq rfl T.len bt_len (pa_cons (pv 4) pa_nil)) (nomark _))
            (pss_one (ps_ret pe_bl))
            pss_nil)
          (pss_one (ps_for PassesOwn.never rfl (pi_range1 rfl T.range (pa_cons (pe_callB call_len_seq rfl T.len bt_len (pa_cons (pv 4) pa_nil)) pa_nil)) (pg_name (i := 5) nd rfl (Or.inl rfl))
            (pss_one (ps_expr (pe_bm PySem.F.plainAttrs_list PySem.F.slot_list_append PySem.F.type_list_append mt_append (pv 2) (pa_cons (pe_tup (pa_cons (pe_ix ix_seq (pv 3) (pv 5) (fun _ _ => rfl)) (pa_cons (pe_ix ix_seq (pv 4) (pv 5) (fun _ _ => rfl)) pa_nil))) pa_nil)))))))))
          (pss_one (ps_if (pt_val (pe_callB call_isi rfl T.isinstance bt_isinstance (pa_cons (pv 4) (pa_cons (pe_ty rfl T.str bt_str) pa_nil))))
            (pss_one (ps_if (PW.pt (pw_or (pt_not (pt_val (pe_callB call_isi rfl T.isinstance bt_isinstance (pa_cons (pv 3) (pa_cons (pe_ty rfl T.str bt_str) pa_nil))))) (pw_or1 (pt_cmpR op_ne (pv 3) (pv 4) (nomark _)))))
              (pss_one (ps_ret pe_bl))
              pss_nil))
            (pss_one (ps_if (pt_val (pe_callB call_isi rfl T.isinstance bt_isinstance (pa_cons (pv 4) (pa_cons (pe_ty rfl T.bool bt_bool) pa_nil))))
              (pss_one (ps_if (PW.pt (pw_or (pt_not (pt_val (pe_callB call_isi rfl T.isinstance bt_isinstance (pa_cons (pv 3) (pa_cons (pe_ty rfl T.bool bt_bool) pa_nil))))) (pw_or1 (pt_cmpR op_ne (pv 3) (pv 4) (nomark _)))))
                (pss_one (ps_ret pe_bl))
                pss_nil))
              (pss_one (ps_if (pt_cmp (pc_isN (pv 4)))
                (pss_one (ps_if (pt_cmp (pc_notN (pv 3)))
                  (pss_one (ps_ret pe_bl))
                  pss_nil))
                (pss_one (ps_if (PW.pt (pw_or (pt_not (pt_val (pe_callB call_isi rfl T.isinstance bt_isinstance (pa_cons (pv 3) (pa_cons (pe_ty rfl T.int bt_int) pa_nil))))) (pw_or (pt_val (pe_callB call_isi rfl T.isinstance bt_isinstance (pa_cons (pv 3) (pa_cons (pe_ty rfl T.bool bt_bool) pa_nil)))) (pw_or1 (pt_cmpR op_ne (pv 3) (pv 4) (nomark _))))))
                  (pss_one (ps_ret pe_bl))
                  pss_nil))))))))))))
      (pss_one (ps_ret pe_bl)))), ?_⟩
    -- _law_todo = [(_law_found, _law_due)]
    refine ⟨_, rfl, _, rfl, (by show 2 ≤ sizeLine; decide), fun q0 hq0 => ⟨by show 1 ≤ sizeLine; decide, fun pt hpt => ?_⟩⟩
    have x0 : Ext G H (upd G q0 (.tup [v, u])) (upd H q0 (.tup [v, u])) := Ext.add sm hq0
    have hptH : H pt = none := x0.h.none hpt
    refine ⟨SoInv H v u pt d.size, ⟨d.size, _, [.ref q0], [d], none, none, none, rfl, x0.gh.trans (same_upd hpt), x0.h.trans (same_upd hpt), x0.gh.none hpt, upd_same,
      .cons ⟨q0, v, u, rfl, upd_same, rv.mono x0.g, ru.mono x0.g⟩ .nil, by simp [sizes], Nat.le_refl _⟩, ?_⟩
    rintro m σ H2 ⟨G2, tv, ds, v3, v4, v5, rfl, sg, sh, npt, hpt2, hP, hm, hmn⟩
    -- while _law_todo != []
    refine ⟨_, rfl, Nat.zero_le _, fun pe hpe => ⟨pt, pe, tv, rfl, rfl, SqL.of (same_upd hpe _ _ hpt2), SqL.of upd_same, _, rfl, ?_⟩⟩
    have sg1 : Same G2 (upd H2 pe (.lst [])) := sg.trans (same_upd hpe)
    have sh1 : Same H (upd H2 pe (.lst [])) := sh.trans (same_upd hpe)
    cases he : tv.isEmpty with
    | true =>
      refine iteF ?_
      exact k _ sh1
    | false =>
      refine iteT ⟨fun σ' H' => ∃ m', m' < m ∧ SoInv H v u pt d.size m' σ' H', fun _ _ z => z, ?_⟩
      obtain ⟨t0, y, rfl⟩ := last_of tv he
      obtain ⟨ds0, d0, rfl, hP0, q, v1, v2, rfl, hq, r1, r2⟩ := paired_snoc hP
      have hsz0 : sizes ds0 + d0.size = m := by
        rw [← hm, sizes_append]
        simp [sizes]
      have hpos := size_pos d0
      -- pop
      refine ⟨_, rfl, .inl ⟨rfl, _, SqL.of (same_upd hpe _ _ hpt2)⟩, pt, _, _, rfl, rfl, same_upd hpe _ _ hpt2, last_at t0 _, q, [v1, v2], rfl, SqT.of ?_, rfl, _, _, rfl, _, _, rfl, rfl, ?_⟩
      · exact same_mut sg1 npt _ _ hq
      rw [List.dropLast_concat]
      have sg3 : Same G2 (upd (upd H2 pe (.lst [])) pt (.lst t0)) := same_mut sg1 npt
      have sh3 : Same H (upd (upd H2 pe (.lst [])) pt (.lst t0)) := same_mut sh1 hptH
      have hpt3 : upd (upd H2 pe (.lst [])) pt (.lst t0) pt = some (.lst t0) := upd_same
      generalize upd (upd H2 pe (.lst [])) pt (.lst t0) = H3 at sg3 sh3 hpt3 ⊢
      -- the way out of a turn that puts nothing more on the pile
      have next : ∀ H4, Same H3 H4 → ∃ m', m' < m ∧ SoInv H v u pt d.size m' [some v, some u, some (.ref pt), some v1, some v2, v5] H4 := fun H4 s4 =>
        ⟨sizes ds0, by omega, G2, t0, ds0, _, _, _, rfl, sg3.trans s4, sh3.trans s4, npt, s4 _ _ hpt3, hP0, rfl, by omega⟩
      -- isinstance(_law_other, (list, tuple))
      refine ⟨_, rfl, (by show 2 ≤ sizeLine; decide), fun qt hqt => ?_⟩
      have s4 : Same H3 (upd H3 qt (.tup [V.ty "list", V.ty "tuple"])) := same_upd hqt
      cases r2
      case int i =>
        cases r1
        refine ⟨_, qt, _, _, _, _, rfl, upd_same, .int i, kit2_int K, _, rfl, iteF ?_⟩
        refine ⟨_, rfl, _, _, _, _, rfl, .int i, kit_int_str K, _, rfl, iteF ?_⟩
        refine ⟨_, rfl, _, _, _, _, rfl, .int i, kit_int_bool K, _, rfl, iteF ?_⟩
        refine ⟨_, rfl, _, rfl, iteF ?_⟩
        refine ⟨_, rfl, _, _, _, _, rfl, .int i, kit_int_int K, _, rfl, iteF ⟨_, rfl, _, _, _, _, rfl, .int i, kit_int_bool K, _, rfl, iteF ⟨_, rfl, _, rfl, by simp [scal], _, rfl, ?_⟩⟩⟩
        exact iteNS rfl (next _ s4)
      case str z =>
        cases r1
        refine ⟨_, qt, _, _, _, _, rfl, upd_same, .str z, kit2_str K, _, rfl, iteF ?_⟩
        refine ⟨_, rfl, _, _, _, _, rfl, .str z, kit_str_str K, _, rfl, iteT ?_⟩
        refine ⟨_, rfl, _, _, _, _, rfl, .str z, kit_str_str K, _, rfl, iteF ⟨_, rfl, _, rfl, by simp [scal], _, rfl, ?_⟩⟩
        exact iteNS rfl (next _ s4)
      case bl z =>
        cases r1
        refine ⟨_, qt, _, _, _, _, rfl, upd_same, .bl z, kit2_bool K, _, rfl, iteF ?_⟩
        refine ⟨_, rfl, _, _, _, _, rfl, .bl z, kit_bool_str K, _, rfl, iteF ?_⟩
        refine ⟨_, rfl, _, _, _, _, rfl, .bl z, kit_bool_bool K, _, rfl, iteT ?_⟩
        refine ⟨_, rfl, _, _, _, _, rfl, .bl z, kit_bool_bool K, _, rfl, iteF ⟨_, rfl, _, rfl, by simp [scal], _, rfl, ?_⟩⟩
        exact iteNS rfl (next _ s4)
      case non =>
        cases r1
        refine ⟨_, qt, _, _, _, _, rfl, upd_same, .non, kit2_none K, _, rfl, iteF ?_⟩
        refine ⟨_, rfl, _, _, _, _, rfl, .non, kit_none_str K, _, rfl, iteF ?_⟩
        refine ⟨_, rfl, _, _, _, _, rfl, .non, kit_none_bool K, _, rfl, iteF ?_⟩
        refine ⟨_, rfl, _, rfl, iteT ?_⟩
        refine ⟨_, rfl, _, rfl, iteF ?_⟩
        exact next _ s4
      case' lst a2 w2 es h2 t2 =>
        obtain ⟨a1, w1, rfl, h1, t1⟩ : ∃ a1 w1, v1 = .ref a1 ∧ G2 a1 = some (.lst w1) ∧ Reps G2 w1 es := by
          cases r1 with
          | lst h t => exact ⟨_, _, rfl, h, t⟩
        have g1 := s4 _ _ (sg3 _ _ h1)
        have g2 := s4 _ _ (sg3 _ _ h2)
        have gf1 : ∀ H', Same G2 H' → SqL K H' a1 w1 ∨ SqT K H' a1 w1 := fun H' e => .inl (SqL.of (e _ _ h1))
        have gf2 : ∀ H', Same G2 H' → SqL K H' a2 w2 ∨ SqT K H' a2 w2 := fun H' e => .inl (SqL.of (e _ _ h2))
        have hds : sizes ds0 + (1 + sizes es) = m := by rw [D.size] at hsz0; exact hsz0
        refine ⟨_, qt, _, _, _, _, rfl, upd_same, .lst g2, kit2_list K, _, rfl, iteT ?_⟩
        refine ⟨_, rfl, _, _, _, _, rfl, .lst g1, kit_list_list K, _, rfl, _, _, _, _, rfl, .lst g2, kit_list_list K, by simp [scal], _, rfl, iteNS rfl ?_⟩
        refine ⟨_, rfl, _, _, _, _, rfl, .lst g1, kit_list_tuple K, _, rfl, _, _, _, _, rfl, .lst g2, kit_list_tuple K, by simp [scal], _, rfl, iteNS rfl ?_⟩
      case' tup a2 w2 es h2 t2 =>
        obtain ⟨a1, w1, rfl, h1, t1⟩ : ∃ a1 w1, v1 = .ref a1 ∧ G2 a1 = some (.tup w1) ∧ Reps G2 w1 es := by
          cases r1 with
          | tup h t => exact ⟨_, _, rfl, h, t⟩
        have g1 := s4 _ _ (sg3 _ _ h1)
        have g2 := s4 _ _ (sg3 _ _ h2)
        have gf1 : ∀ H', Same G2 H' → SqL K H' a1 w1 ∨ SqT K H' a1 w1 := fun H' e => .inr (SqT.of (e _ _ h1))
        have gf2 : ∀ H', Same G2 H' → SqL K H' a2 w2 ∨ SqT K H' a2 w2 := fun H' e => .inr (SqT.of (e _ _ h2))
        have hds : sizes ds0 + (1 + sizes es) = m := by rw [D.size] at hsz0; exact hsz0
        refine ⟨_, qt, _, _, _, _, rfl, upd_same, .tup g2, kit2_tuple K, _, rfl, iteT ?_⟩
        refine ⟨_, rfl, _, _, _, _, rfl, .tup g1, kit_tuple_list K, _, rfl, _, _, _, _, rfl, .tup g2, kit_tuple_list K, by simp [scal], _, rfl, iteNS rfl ?_⟩
        refine ⟨_, rfl, _, _, _, _, rfl, .tup g1, kit_tuple_tuple K, _, rfl, _, _, _, _, rfl, .tup g2, kit_tuple_tuple K, by simp [scal], _, rfl, iteNS rfl ?_⟩
      all_goals
        have l1 := t1.length
        have l2 := t2.length
        have les := length_le_sizes es
        have ld0 : t0.length ≤ sizes ds0 := by rw [paired_length hP0]; exact length_le_sizes ds0
        have sg4 := sg3.trans s4
        -- len(_law_one) != len(_law_other)
        refine ⟨_, rfl, a1, w1, rfl, gf1 _ sg4, _, rfl, a2, w2, rfl, gf2 _ sg4, by simp [scal], _, rfl, iteNS (by rw [l1, l2]) ?_⟩
        refine ⟨_, rfl, a2, w2, rfl, gf2 _ sg4, _, rfl, by omega, by omega, for_range
          (fun i σ H5 => ∃ (G5 : Hp) (cur : List V) (z5 : Option V), σ = [some v, some u, some (.ref pt), some (.ref a1), some (.ref a2), z5] ∧ Same G2 G5 ∧ Same G5 H5 ∧ Same H H5 ∧ G5 pt = none ∧ H5 pt = some (.lst cur) ∧ Paired (PairRel G5) cur (ds0 ++ es.take i))
          ⟨G2, t0, _, rfl, Same.refl _, sg4, sh3.trans s4, npt, s4 _ _ hpt3, by rw [List.take_zero, List.append_nil]; exact hP0⟩ ?_ ?_⟩
        · rintro i σ H5 hi ⟨G5, cur, z5, rfl, sg25, sg5, sh5, np5, hp5, hPc⟩
          have hi2 : i < es.length := by rw [← l2]; simpa using hi
          obtain ⟨y1, hy1, ry1⟩ := t1.get (i := i) (d := es[i]) (List.getElem?_eq_getElem hi2)
          obtain ⟨y2, hy2, ry2⟩ := t2.get (i := i) (d := es[i]) (List.getElem?_eq_getElem hi2)
          have a1' : atI w1 (0 + (i : Int)) = some y1 := by rw [Int.zero_add]; exact atI_nat hy1
          have a2' : atI w2 (0 + (i : Int)) = some y2 := by rw [Int.zero_add]; exact atI_nat hy2
          have lc : cur.length ≤ sizes ds0 + sizes es := by
            rw [paired_length hPc, List.length_append, List.length_take]
            have := length_le_sizes ds0
            omega
          refine ⟨_, rfl, .inl ⟨rfl, _, SqL.of hp5⟩, _, rfl, _, rfl, ixAny (gf1 _ (sg25.trans sg5)) a1' ⟨_, rfl, _, rfl, ixAny (gf2 _ (sg25.trans sg5)) a2' ⟨by show 2 ≤ sizeLine; decide, fun qn hqn => ⟨pt, cur, _, rfl, rfl, same_upd hqn _ _ hp5, by omega, ?_⟩⟩⟩⟩
          have x6 : Ext G5 H5 (upd G5 qn (.tup [y1, y2])) (upd H5 qn (.tup [y1, y2])) := Ext.add sg5 hqn
          have np6 : upd G5 qn (.tup [y1, y2]) pt = none := x6.keep hp5 np5
          refine ⟨upd G5 qn (.tup [y1, y2]), cur ++ [.ref qn], _, rfl, sg25.trans x6.g, same_mut x6.gh np6, same_mut (sh5.trans x6.h) hptH, np6, upd_same, ?_⟩
          rw [List.take_succ_eq_append_getElem hi2, ← List.append_assoc]
          exact paired_app (paired_mono (fun _ _ z => z.mono x6.g) hPc) (.cons ⟨qn, y1, y2, rfl, upd_same, (ry1.mono sg25).mono x6.g, (ry2.mono sg25).mono x6.g⟩ .nil)
        · rintro σ H5 ⟨G5, cur, z5, rfl, sg25, sg5, sh5, np5, hp5, hPc⟩
          rw [Int.toNat_natCast, List.take_of_length_le (by omega)] at hPc
          exact ⟨sizes ds0 + sizes es, by omega, G5, cur, ds0 ++ es, _, _, _, rfl, sg5, sh5, np5, hp5, hPc, sizes_append _ _, by omega⟩
end
end K10
namespace K10
open PySem L2 TT
theorem knots_grow (m : Str) (ts : List Tr) (n : Nat) : knotsOf (ts.take n ++ [Tr.node m (ts.drop n)]) = knotsOf ts + 1 := by
  have e := knotsOf_append (ts.take n) (ts.drop n)
  rw [List.take_append_drop] at e
  rw [knotsOf_append, knotsOf, Tr.knots, knotsOf, e]
  omega
theorem words_grow {m : Str} {ts : List Tr} (n : Nat) (hm : Word m) (h : wordsOf ts) : wordsOf (ts.take n ++ [Tr.node m (ts.drop n)]) := by
  rw [wordsOf_iff] at h ⊢
  intro t ht
  rcases List.mem_append.mp ht with q | q
  · exact h t (List.mem_of_mem_take q)
  · have e : t = Tr.node m (ts.drop n) := by simpa using q
    subst e
    exact ⟨hm, wordsOf_iff.mpr fun u hu => h u (List.mem_of_mem_drop hu)⟩
theorem words_perm {a b : List Tr} (h : a.Perm b) (w : wordsOf a) : wordsOf b := wordsOf_iff.mpr fun t ht => wordsOf_iff.mp w t (h.mem_iff.mpr ht)
section
variable {P : Program} {w : World} {K : PySem.W.Frag} {mg : Str → Option Value} {base : Heap}
/-! ### _law_drawn_row -/
def spDrawn : Sp := fun vs H Q _ => ∃ (G : Hp) (c : Addr) (ns : List Int), vs = [.ref c] ∧ Same G H ∧ G c = some (.lst (ns.map V.int)) ∧ ns.length ≤ 1000 ∧
  ∀ (G' H' : Hp) (r : V) (ts : List Tr), Ext G H G' H' → Rep G' r (rowD ts) → knotsOf ts ≤ ns.length → wordsOf ts → Q r H'
theorem scDrawn : FnScope ["_law_cells", "_law_row", "_law_j", "_law_cell", "_law_mark", "_law_many"] ["_law_cells"] (defScope sDrawn) := ⟨rfl, rfl, rfl, by decide +kernel, rfl, by decide +kernel, by decide +kernel⟩
theorem ok_drawn {f : Addr} {fd : FuncData} (F : Fun K "_law_drawn_row" "_law_drawn_row" sDrawn f fd) (T : Txt mg) (F_word : Ok1 P w K mg base 3 "_law_any_word" ["_law_cell"] spWord) : FnOk P w K mg base CX0 5 f fd ["_law_cells"] spDrawn := by
  refine F.ok scDrawn (fun vs H Q E h => ?_) (fun cdv A outer s H vs Q E hr h => ?_)
  · obtain ⟨G, c, ns, rfl, _⟩ := h
    rfl
  · obtain ⟨G, c, ns, rfl, sm, hc, hns, k⟩ := h
    have nd := scDrawn.nd
    refine ⟨_, (pss_cons (ps_set (i := 1) nd rfl (Or.inl rfl) (pe_lst pa_nil))
      (pss_cons (ps_for PassesOwn.never rfl (pi_range1 rfl T.range (pa_cons (pe_callB call_len_seq rfl T.len bt_len (pa_cons (pv 0) pa_nil)) pa_nil)) (pg_name (i := 2) nd rfl (Or.inl rfl))
        (pss_cons (ps_set (i := 3) nd rfl (Or.inl rfl) (pe_ix ix_list (pv 0) (pv 2) (fun _ _ => rfl)))
        (pss_cons (ps_set (i := 4) nd rfl (Or.inl rfl) (pe_ix ix_list (pe_lst (pa_cons pe_str (pa_cons pe_str (pa_cons pe_str (pa_cons pe_str pa_nil))))) (pe_op op_mod (pe_op op_fdiv (pv 3) pe_int) pe_int) (fun _ _ => rfl)))
        (pss_cons (ps_ifM (pt_cmpR op_eq (pe_op op_mod (pv 3) pe_int) pe_int (nomark _))
          (pss_one (ps_set (i := 4) nd rfl (Or.inl rfl) (pe_fn F_word (hr.mono (by decide)) rfl (pa_cons (pe_op op_fdiv (pv 3) pe_int) pa_nil))))
          pss_nil)
        (pss_cons (ps_set (i := 5) nd rfl (Or.inl rfl) (pe_callB (call_min2 rfl) rfl T.min bt_min (pa_cons (pe_ix ix_list (pe_lst (pa_cons pe_int (pa_cons pe_int (pa_cons pe_int (pa_cons pe_int (pa_cons pe_int (pa_cons pe_int (pa_cons pe_int pa_nil)))))))) (pe_op op_mod (pv 3) pe_int) (fun _ _ => rfl)) (pa_cons (pe_callB call_len_seq rfl T.len bt_len (pa_cons (pv 1) pa_nil)) pa_nil))))
        (pss_cons (ps_set (i := 1) nd rfl (Or.inl rfl) (pe_op op_cat (pe_slice sl_list (pv 1) po_none (po_some (pe_op op_sub (pe_callB call_len_seq rfl T.len bt_len (pa_cons (pv 1) pa_nil)) (pv 5)))) (pe_lst (pa_cons (pe_callTy call_tuple_of rfl T.tuple bt_tuple (pa_cons (pe_op op_cat (pe_lst (pa_cons (pv 4) pa_nil)) (pe_slice sl_list (pv 1) (po_some (pe_op op_sub (pe_callB call_len_seq rfl T.len bt_len (pa_cons (pv 1) pa_nil)) (pv 5))) po_none)) pa_nil)) pa_nil))))
        (pss_one (ps_if (pt_cmpR op_eq (pe_op op_mod (pe_op op_fdiv (pe_ix ix_list (pv 0) (pe_op op_mod (pe_op op_add (pv 2) pe_int) (pe_callB call_len_seq rfl T.len bt_len (pa_cons (pv 0) pa_nil))) (fun _ _ => rfl)) pe_int) pe_int) pe_int (nomark _))
          (pss_one (ps_set (i := 1) nd rfl (Or.inl rfl) (pe_op op_cat (pe_slice sl_list (pv 1) (po_some (pe_un un_neg pe_int)) po_none) (pe_slice sl_list (pv 1) po_none (po_some (pe_un un_neg pe_int))))))
          pss_nil))))))))
      (pss_one (ps_ret (pv 1))))), ?_⟩
    have hcl : (ns.map V.int).length = ns.length := List.length_map ..
    have big := line_big
    -- _law_row = []
    refine ⟨Nat.zero_le _, fun p0 hp0 => ?_⟩
    have x0 : Ext G H (upd G p0 (.lst [])) (upd H p0 (.lst [])) := Ext.add sm hp0
    -- for _law_j in range(len(_law_cells))
    refine ⟨_, rfl, c, _, rfl, .inl (SqL.of (x0.h _ _ (sm _ _ hc))), _, rfl, by rw [hcl]; omega, by rw [hcl]; omega, for_range
      (fun i σ H2 => ∃ (G2 : Hp) (rv : V) (ts : List Tr) (v2 v3 v4 v5 : Option V), σ = [some (.ref c), some rv, v2, v3, v4, v5] ∧ Ext G H G2 H2 ∧ Rep G2 rv (rowD ts) ∧ knotsOf ts ≤ i ∧ wordsOf ts)
      ⟨_, .ref p0, [], none, none, none, none, rfl, x0, .lst upd_same .nil, Nat.le_refl _, trivial⟩ ?_ ?_⟩
    · rintro i σ H2 hi ⟨G2, rv, ts, v2, v3, v4, v5, rfl, x, rr, hk, hw⟩
      have hin : i < ns.length := by rw [hcl] at hi; simpa using hi
      have hc2 : H2 c = some (.lst (ns.map V.int)) := x.h _ _ (sm _ _ hc)
      have hcell : atI (ns.map V.int) (0 + (i : Int)) = some (.int ns[i]) := by rw [Int.zero_add]; exact ints_ix hin
      obtain ⟨ra, tvs, rfl, hra, rts⟩ := rr.row
      have hlen := rts.length
      rw [List.length_map] at hlen
      have hlk := length_le_knots ts
      -- cell; mark
      refine ⟨_, rfl, _, rfl, c, _, _, _, rfl, rfl, SqL.of hc2, hcell, ?_⟩
      obtain ⟨m0, hm0, wm0⟩ := four_words (ns[i] / 4)
      refine ⟨by show 4 ≤ sizeLine; decide, fun p1 hp1 => ⟨_, rfl, _, _, rfl, rfl, ⟨by decide, by decide⟩, _, _, rfl, rfl, (by show (0 : Int) < 4; decide), p1, _, _, _, rfl, rfl, SqL.of upd_same, hm0, ?_⟩⟩
      have x1 := x.trans (Ext.tmp (o := .lst [V.str (Str.ofString "sab"), V.str (Str.ofString "tab"), V.str (Str.ofString "sob"), V.str (Str.ofString "sat")]) x.gh hp1)
      -- if cell % 11 == 8
      refine ⟨fun σ' H' => ∃ m : Str, σ' = [some (.ref c), some (.ref ra), some (.int (0 + (i : Int))), some (.int ns[i]), some (.str m), v5] ∧ Word m ∧ Ext G H G2 H', ?_, ?_⟩
      · refine ⟨_, rfl, _, _, rfl, rfl, (by show (0 : Int) < 11; decide), rfl, _, rfl, ?_⟩
        refine ite2 (fun _ => ?_) (fun _ => ?_)
        · refine ⟨_, rfl, _, _, rfl, rfl, ⟨by decide, by decide⟩, _, rfl, fun H4 y sm4 wy => ?_⟩
          exact ⟨y, rfl, wy, ⟨x1.g, x1.gh.trans sm4, x1.h.trans sm4, x1.new⟩⟩
        · exact ⟨m0, rfl, wm0, x1⟩
      · rintro σ' H3 ⟨m, rfl, wm, x3⟩
        have hra3 : H3 ra = some (.lst tvs) := x3.gh _ _ hra
        -- many
        obtain ⟨k7, hk7⟩ := seven_ints ns[i]
        refine ⟨by show 7 ≤ sizeLine; decide, fun p2 hp2 => ⟨_, rfl, _, _, rfl, rfl, (by show (0 : Int) < 7; decide), p2, _, _, _, rfl, rfl, SqL.of upd_same, hk7, _, rfl, ra, tvs, rfl, .inl (SqL.of (same_upd hp2 _ _ hra3)), _, _, rfl, ?_⟩⟩
        have x4 := x3.trans (Ext.tmp (o := .lst [V.int 0, V.int 0, V.int 1, V.int 1, V.int 2, V.int 3, V.int 4]) x3.gh hp2)
        obtain ⟨mn, hmn, hml⟩ : ∃ mn : Nat, (if (tvs.length : Int) < (k7 : Int) then (tvs.length : Int) else (k7 : Int)) = (mn : Int) ∧ mn ≤ tvs.length := by
          by_cases h : (tvs.length : Int) < (k7 : Int)
          · exact ⟨tvs.length, by rw [if_pos h], Nat.le_refl _⟩
          · exact ⟨k7, by rw [if_neg h], by omega⟩
        rw [hmn]
        have hsub : (tvs.length : Int) - (mn : Int) = ((tvs.length - mn : Nat) : Int) := by omega
        have hra4 := x4.gh _ _ hra
        -- row[:len(row) - many]
        refine ⟨_, rfl, _, rfl, ra, tvs, rfl, .inl (SqL.of hra4), _, rfl, _, _, rfl, rfl, _, rfl, ra, tvs, rfl, SqL.of hra4, fun p3 hp3 => ?_⟩
        rw [hsub, cut_to]
        have x5 := x4.trans (Ext.tmp (o := .lst (tvs.take (tvs.length - mn))) x4.gh hp3)
        have hra5 := x5.gh _ _ hra
        -- [mark] + row[len(row) - many:]
        refine ⟨_, rfl, (by show 1 ≤ sizeLine; decide), fun p4 hp4 => ?_⟩
        have x6 := x5.trans (Ext.tmp (o := .lst [V.str m]) x5.gh hp4)
        have hra6 := x6.gh _ _ hra
        refine ⟨_, rfl, _, rfl, ra, tvs, rfl, .inl (SqL.of hra6), _, rfl, _, _, rfl, rfl, _, rfl, ra, tvs, rfl, SqL.of hra6, fun p5 hp5 => ?_⟩
        rw [hsub, cut_from]
        have x7 := x6.trans (Ext.tmp (o := .lst (tvs.drop (tvs.length - mn))) x6.gh hp5)
        refine ⟨p4, p5, _, _, rfl, rfl, same_upd hp5 _ _ upd_same, upd_same, (by rw [List.length_drop]; show 1 + _ ≤ sizeLine; omega), fun p6 hp6 => ?_⟩
        have x8 := x7.trans (Ext.tmp (o := .lst ([V.str m] ++ tvs.drop (tvs.length - mn))) x7.gh hp6)
        refine ⟨p6, _, rfl, .inl ⟨SqL.of upd_same, fun p7 hp7 => ?_⟩⟩
        have x9 := x8.trans (Ext.add (o := .tup ([V.str m] ++ tvs.drop (tvs.length - mn))) x8.gh hp7)
        refine ⟨by show 1 ≤ sizeLine; decide, fun p8 hp8 => ?_⟩
        have x10 := x9.trans (Ext.tmp (o := .lst [V.ref p7]) x9.gh hp8)
        have h38 : upd (upd (upd (upd (upd (upd (upd H3 p2 (.lst [V.int 0, V.int 0, V.int 1, V.int 1, V.int 2, V.int 3, V.int 4])) p3 (.lst (tvs.take (tvs.length - mn)))) p4 (.lst [V.str m])) p5 (.lst (tvs.drop (tvs.length - mn)))) p6 (.lst ([V.str m] ++ tvs.drop (tvs.length - mn)))) p7 (.tup ([V.str m] ++ tvs.drop (tvs.length - mn)))) p8 (.lst [V.ref p7]) p3 = some (.lst (tvs.take (tvs.length - mn))) :=
          same_upd hp8 _ _ (same_upd hp7 _ _ (same_upd hp6 _ _ (same_upd hp5 _ _ (same_upd hp4 _ _ upd_same))))
        refine ⟨p3, p8, _, _, rfl, rfl, h38, upd_same, (by rw [List.length_take]; show _ + 1 ≤ sizeLine; omega), fun p9 hp9 => ?_⟩
        have x11 := x10.trans (Ext.add (o := .lst (tvs.take (tvs.length - mn) ++ [V.ref p7])) x10.gh hp9)
        -- the row that stands now
        have s7 : Same G2 (upd G2 p7 (.tup ([V.str m] ++ tvs.drop (tvs.length - mn)))) := same_upd (x8.gh.none hp7)
        have s9 : Same (upd G2 p7 (.tup ([V.str m] ++ tvs.drop (tvs.length - mn)))) (upd (upd G2 p7 (.tup ([V.str m] ++ tvs.drop (tvs.length - mn)))) p9 (.lst (tvs.take (tvs.length - mn) ++ [V.ref p7]))) := same_upd (x10.gh.none hp9)
        have R : Rep (upd (upd G2 p7 (.tup ([V.str m] ++ tvs.drop (tvs.length - mn)))) p9 (.lst (tvs.take (tvs.length - mn) ++ [V.ref p7]))) (.ref p9) (rowD (ts.take (tvs.length - mn) ++ [Tr.node m (ts.drop (tvs.length - mn))])) := by
          refine .lst upd_same ?_
          rw [List.map_append, List.map_take]
          refine ((rts.take _).mono (s7.trans s9)).append (.cons ?_ .nil)
          rw [tree_d]
          refine .tup (s9 _ _ upd_same) (.cons (.str m) ?_)
          show Reps _ _ ((ts.drop (tvs.length - mn)).map Tr.d)
          rw [List.map_drop]
          exact (rts.drop _).mono (s7.trans s9)
        have hkn := knots_grow m ts (tvs.length - mn)
        have hwn := words_grow (tvs.length - mn) wm hw
        have hc11 := x11.h _ _ (sm _ _ hc)
        have h9 := x11.gh _ _ (upd_same (H := upd G2 p7 (.tup ([V.str m] ++ tvs.drop (tvs.length - mn)))) (a := p9) (o := .lst (tvs.take (tvs.length - mn) ++ [V.ref p7])))
        generalize tvs.take (tvs.length - mn) ++ [V.ref p7] = rvs at *
        generalize ts.take (tvs.length - mn) ++ [Tr.node m (ts.drop (tvs.length - mn))] = rs at *
        have hpos : (0 : Int) < ((ns.map V.int).length : Int) := by rw [hcl]; omega
        have hm1 : 0 ≤ (0 + (i : Int) + 1) % ((ns.map V.int).length : Int) := Int.emod_nonneg _ (by omega)
        have hm2 : (0 + (i : Int) + 1) % ((ns.map V.int).length : Int) < ((ns.map V.int).length : Int) := Int.emod_lt_of_pos _ hpos
        obtain ⟨nx, hnx⟩ := ints_ixI (ns := ns) hm1 (by rw [hcl] at hm2 ⊢; exact hm2)
        -- if cells[(j + 1) % len(cells)] // 3 % 4 == 1
        refine ⟨_, rfl, _, rfl, _, _, rfl, rfl, _, rfl, c, _, rfl, .inl (SqL.of hc11), _, _, rfl, rfl, hpos, c, _, _, _, rfl, rfl, SqL.of hc11, hnx, _, _, rfl, rfl, ⟨by decide, by decide⟩, _, _, rfl, rfl, (by show (0 : Int) < 4; decide), rfl, _, rfl, ?_⟩
        refine ite2 (fun _ => ?_) (fun _ => ?_)
        · obtain ⟨_, rvs', e9, hg9, rrs⟩ := R.row
          cases e9
          rw [upd_same] at hg9
          cases hg9
          have hrl := rrs.length
          rw [List.length_map] at hrl
          have hrk := length_le_knots rs
          refine ⟨_, rfl, _, rfl, _, rfl, p9, rvs, rfl, SqL.of h9, fun q1 h1 => ?_⟩
          rw [cut_last]
          have x12 := x11.trans (Ext.tmp (o := .lst (rvs.drop (rvs.length - 1))) x11.gh h1)
          refine ⟨_, rfl, _, rfl, _, rfl, p9, rvs, rfl, SqL.of (same_upd h1 _ _ h9), fun q2 h2 => ?_⟩
          rw [cut_front]
          have x13 := x12.trans (Ext.tmp (o := .lst (rvs.take (rvs.length - 1))) x12.gh h2)
          refine ⟨q1, q2, _, _, rfl, rfl, same_upd h2 _ _ upd_same, upd_same, (by rw [List.length_drop, List.length_take]; omega), fun q3 h3 => ?_⟩
          have x14 := x13.trans (Ext.add (o := .lst (rvs.drop (rvs.length - 1) ++ rvs.take (rvs.length - 1))) x13.gh h3)
          have hpm : (rs.drop (rvs.length - 1) ++ rs.take (rvs.length - 1)).Perm rs := by
            have := List.perm_append_comm (l₁ := rs.drop (rvs.length - 1)) (l₂ := rs.take (rvs.length - 1))
            rwa [List.take_append_drop] at this
          refine ⟨_, .ref q3, rs.drop (rvs.length - 1) ++ rs.take (rvs.length - 1), _, _, _, _, rfl, x14, .lst upd_same ?_, ?_, words_perm hpm.symm hwn⟩
          · rw [List.map_append, List.map_drop, List.map_take]
            exact ((rrs.drop _).append (rrs.take _)).mono (same_upd (x13.gh.none h3))
          · rw [knotsOf_perm hpm]; omega
        · exact ⟨_, .ref p9, rs, _, _, _, _, rfl, x11, R, by omega, hwn⟩
    · rintro σ H2 ⟨G2, rv, ts, v2, v3, v4, v5, rfl, x, rr, hk, hw⟩
      rw [hcl, Int.toNat_natCast] at hk
      exact ⟨_, rfl, k G2 H2 rv ts x rr hk hw⟩
end
end K10
namespace K10
open PySem L2 TT TX
theorem one_eq {s : String} {a : Nat} (e : Str.ofString s = ⟨#[a]⟩) (c : Nat) : decide (V.str ⟨#[c]⟩ = V.str (Str.ofString s)) = decide (c = a) := by
  rw [e, Bool.eq_iff_iff, decide_eq_true_iff, decide_eq_true_iff]
  constructor
  · intro h
    injection h with h
    have h2 := congrArg (fun x : Str => x.cps.toList) h
    have h3 : [c] = [a] := h2
    injection h3
  · rintro rfl
    rfl
section
variable {P : Program} {w : World} {K : PySem.W.Frag} {mg : Str → Option Value} {base : Heap}
/-! ### brackets_fit -/
def spBrk : Sp := fun vs H Q _ => ∃ z : Str, vs = [.str z] ∧ asc z ∧ Q (.bl (brk 0 z.cps.toList)) H
theorem scBrk : FnScope ["line", "depth", "sign"] ["line"] (defScope sBrk) := ⟨rfl, rfl, rfl, by decide +kernel, rfl, by decide +kernel, by decide +kernel⟩
theorem ok_brk {f : Addr} {fd : FuncData} (F : Fun K "brackets_fit" "brackets_fit" sBrk f fd) : FnOk P w K mg base CX0 3 f fd ["line"] spBrk := by
  refine F.ok scBrk (fun vs H Q E h => ?_) (fun cdv A outer s H vs Q E hr h => ?_)
  · obtain ⟨z, rfl, _⟩ := h
    rfl
  · obtain ⟨z, rfl, ha, k⟩ := h
    have nd := scBrk.nd
    refine ⟨_, (pss_cons (ps_set (i := 1) nd rfl (Or.inl rfl) pe_int)
      (pss_cons (ps_for PassesOwn.never rfl (pi_str (pv 0)) (pg_name (i := 2) nd rfl (Or.inl rfl))
        (pss_cons (ps_ifM (pt_cmpR op_eq (pv 2) pe_str (nomark _))
          (pss_one (ps_aug (i := 1) nd rfl (Or.inl rfl) pe_int ip_add))
          pss_nil)
        (pss_cons (ps_ifM (pt_cmpR op_eq (pv 2) pe_str (nomark _))
          (pss_one (ps_aug (i := 1) nd rfl (Or.inl rfl) pe_int ip_sub))
          pss_nil)
        (pss_one (ps_if (pt_cmpR op_lt (pv 1) pe_int (nomark _))
          (pss_one (ps_ret pe_bl))
          pss_nil)))))
      (pss_one (ps_ret (pe_cmpR op_eq (pv 1) pe_int (nomark _)))))), ?_⟩
    refine ⟨_, rfl, _, rfl, ha, for_str (fun a r σ H2 => ∃ (d : Int) (v2 : Option V), σ = [some (.str z), some (.int d), v2] ∧ H2 = H ∧ brk 0 z.cps.toList = brk d r)
      ⟨0, none, rfl, rfl, rfl⟩ ?_ ?_⟩
    · rintro a c r σ H2 hx ⟨d, v2, rfl, rfl, e⟩
      refine ⟨fun σ' H' => σ' = [some (.str z), some (.int (if c = 40 then d + 1 else d)), some (.str ⟨#[c]⟩)] ∧ H' = H2, ?_, ?_⟩
      · refine ⟨_, rfl, rfl, decide (c = 40), (by rw [one_eq p40]), ?_⟩
        refine ite2 (fun h => ?_) (fun h => ?_)
        · have h := of_decide_eq_true h
          exact ⟨_, rfl, _, _, rfl, rfl, by rw [if_pos h]; rfl, rfl⟩
        · have h := fun z => h (decide_eq_true z)
          exact ⟨by rw [if_neg h]; rfl, rfl⟩
      rintro σ' H1 ⟨rfl, rfl⟩
      refine ⟨fun σ' H' => σ' = [some (.str z), some (.int (dep d c)), some (.str ⟨#[c]⟩)] ∧ H' = H1, ?_, ?_⟩
      · refine ⟨_, rfl, rfl, decide (c = 41), (by rw [one_eq p41]), ?_⟩
        refine ite2 (fun h => ?_) (fun h => ?_)
        · have h := of_decide_eq_true h
          subst h
          exact ⟨_, rfl, _, _, rfl, rfl, rfl, rfl⟩
        · have h := fun z => h (decide_eq_true z)
          refine ⟨?_, rfl⟩
          by_cases h0 : c = 40
          · rw [dep, if_pos h0, if_pos h0]
          · rw [dep, if_neg h0, if_neg h0, if_neg h]
      rintro σ' H' ⟨rfl, rfl⟩
      refine ⟨_, rfl, _, _, rfl, rfl, _, rfl, ?_⟩
      rw [brk] at e
      refine ite2 (fun h => ?_) (fun h => ?_)
      · have h := of_decide_eq_true h
        rw [decide_eq_false (by omega), Bool.false_and] at e
        rw [e] at k
        exact k
      · have h : ¬ dep d c < 0 := fun z => h (decide_eq_true z)
        rw [decide_eq_true (by omega), Bool.true_and] at e
        exact ⟨_, _, rfl, rfl, e⟩
    · rintro σ H2 ⟨d, v2, rfl, rfl, e⟩
      rw [brk] at e
      rw [e] at k
      refine ⟨_, rfl, rfl, ?_⟩
      have ed : decide (V.int d = V.int 0) = decide (d = 0) := by
        rw [Bool.eq_iff_iff, decide_eq_true_iff, decide_eq_true_iff]
        exact ⟨fun h => by injection h, fun h => by rw [h]⟩
      rw [ed]
      exact k
end
end K10
namespace K10
open PySem L2 TT TX
theorem str_eq {s : String} {a : Str} (e : Str.ofString s = a) (w : Str) : decide (V.str w = V.str (Str.ofString s)) = decide (w = a) := by
  rw [e, Bool.eq_iff_iff, decide_eq_true_iff, decide_eq_true_iff]
  exact ⟨fun h => by injection h, fun h => by rw [h]⟩
theorem reps_snoc {G : Hp} {vs : List V} {ds : List D} {d : D} (r : Reps G vs (ds ++ [d])) : ∃ t0 y, vs = t0 ++ [y] ∧ Reps G t0 ds ∧ Rep G y d := by
  have hl := r.length
  rw [List.length_append, List.length_singleton] at hl
  have hd : vs.isEmpty = false := by
    cases vs with
    | nil => simp at hl
    | cons _ _ => rfl
  obtain ⟨t0, y, rfl⟩ := last_of vs hd
  rw [List.length_append, List.length_singleton] at hl
  have h0 : t0.length = ds.length := by omega
  refine ⟨t0, y, rfl, ?_, ?_⟩
  · have := r.take t0.length
    rwa [List.take_left, h0, List.take_left] at this
  · have := r.drop t0.length
    rw [List.drop_left, h0, List.drop_left] at this
    cases this with
    | cons r _ => exact r
theorem atI_last {α : Type} (l : List α) (y : α) : atI (l ++ [y]) (-1) = some y := by
  unfold atI ixN
  rw [if_neg (by decide), if_pos (by rw [List.length_append, List.length_singleton]; omega)]
  have e : ((-1 : Int) + ((l ++ [y]).length : Int)).toNat = l.length := by rw [List.length_append, List.length_singleton]; omega
  rw [Option.bind_some, e]
  simp
theorem step_close {lv lv' : List (List Tr)} (h : lvStep lv ⟨#[41]⟩ = some lv') : ∃ ts r0 t fs, lv = ts :: (r0 ++ [t]) :: fs ∧ lv' = (r0 ++ [.node t.mark ts]) :: fs := by
  rw [lvStep.eq_def, if_neg (by decide), if_pos rfl] at h
  match lv, h with
  | ts :: row :: fs, h =>
    dsimp only at h
    split at h
    · rename_i t ht
      have hrow : row = row.dropLast ++ [t] := by
        have hne : row ≠ [] := by rintro rfl; cases ht
        rw [List.getLast?_eq_some_getLast hne] at ht
        obtain rfl := Option.some.inj ht
        exact (List.dropLast_concat_getLast hne).symm
      exact ⟨ts, row.dropLast, t, fs, by rw [← hrow], (Option.some.inj h).symm⟩
    · cases h
theorem step_word {lv lv' : List (List Tr)} {w : Str} (h1 : w ≠ ⟨#[40]⟩) (h2 : w ≠ ⟨#[41]⟩) (h : lvStep lv w = some lv') : ∃ r fs, lv = r :: fs ∧ lv' = (r ++ [.node w []]) :: fs := by
  rw [lvStep.eq_def, if_neg h1, if_neg h2] at h
  match lv, h with
  | r :: fs, h => exact ⟨r, fs, rfl, (Option.some.inj h).symm⟩
/-- the levels as they lie: each a list of its own -/
inductive Lvs (G H : Hp) : List Addr → List (List Tr) → Prop
  | nil : Lvs G H [] []
  | cons {p : Addr} {tv : List V} {ts : List Tr} {ps : List Addr} {lv : List (List Tr)} (h : H p = some (.lst tv)) (r : Reps G tv (ts.map Tr.d)) (t : Lvs G H ps lv) : Lvs G H (p :: ps) (ts :: lv)
theorem Lvs.keep {G H G' H' : Hp} {ps : List Addr} {lv : List (List Tr)} (x : Lvs G H ps lv) (g : Same G G') : (∀ p ∈ ps, ∀ o, H p = some o → H' p = some o) → Lvs G' H' ps lv := by
  induction x with
  | nil => exact fun _ => .nil
  | cons h r _ ih => exact fun k => .cons (k _ List.mem_cons_self _ h) (r.mono g) (ih fun p hp => k p (List.mem_cons_of_mem _ hp))
theorem Lvs.there {G H : Hp} {ps : List Addr} {lv : List (List Tr)} (x : Lvs G H ps lv) : ∀ p ∈ ps, ∃ o, H p = some o := by
  induction x with
  | nil => exact fun _ h => nomatch h
  | cons h _ _ ih =>
    intro p hp
    rcases List.mem_cons.mp hp with rfl | hp
    · exact ⟨_, h⟩
    · exact ih p hp
theorem Lvs.one {G H : Hp} {ps : List Addr} {ts : List Tr} {lv : List (List Tr)} (x : Lvs G H ps (ts :: lv)) : ∃ p tv ps', ps = p :: ps' ∧ H p = some (.lst tv) ∧ Reps G tv (ts.map Tr.d) ∧ Lvs G H ps' lv := by
  cases x with
  | cons h r t => exact ⟨_, _, _, rfl, h, r, t⟩
abbrev G0 : Hp := fun _ => none
/-- between two words of row_of -/
inductive RowInv (H : Hp) (z : Str) (pl wa : Addr) (ws : List Str) (row : List Tr) (i : Nat) (σ : L2.St) (H2 : Hp) : Prop
  | mk (G2 : Hp) (ps : List Addr) (lv : List (List Tr)) (v2 v3 v4 : Option V) (e : σ = [some (.str z), some (.ref pl), v2, v3, v4]) (x : Ext G0 H G2 H2) (hl : H2 pl = some (.lst (ps.reverse.map V.ref))) (hw : H2 wa = some (.lst (ws.map V.str)))
      (nd : (wa :: pl :: ps).Nodup) (nG : ∀ p ∈ wa :: pl :: ps, G2 p = none ∧ H p = none) (lvs : Lvs G2 H2 ps lv) (run : lvRun lv (ws.drop i) = some [row]) (b1 : ps.length ≤ i + 1) (b2 : ∀ ts ∈ lv, ts.length ≤ i) : RowInv H z pl wa ws row i σ H2
section
variable {P : Program} {w : World} {K : PySem.W.Frag} {mg : Str → Option Value} {base : Heap}
/-! ### row_of -/
def spRowOf : Sp := fun vs H Q _ => ∃ z : Str, vs = [.str z] ∧ z.length ≤ 10000 ∧ chk 40 0 z.cps.toList = true ∧
  ∀ (G' H' : Hp) (r : V) (row : List Tr), Ext G0 H G' H' → Rep G' r (rowD row) → goods row → txts false row = z.cps.toList → Q r H'
theorem scRowOf : FnScope ["line", "levels", "word", "trees", "above"] ["line"] (defScope sRowOf) := ⟨rfl, rfl, rfl, by decide +kernel, rfl, by decide +kernel, by decide +kernel⟩
theorem ok_rowof {f : Addr} {fd : FuncData} (F : Fun K "row_of" "row_of" sRowOf f fd) (T : Txt mg) (F_mark : Ok1 P w K mg base 3 "mark_of" ["tree"] spMark) (F_knot : Ok1 P w K mg base 3 "knot" ["mark", "trees"] spKnot) :
    FnOk1 P w K mg base CX0 5 f fd ["line"] spRowOf := by
  refine fun_ok1 F scRowOf (fun vs H Q E h => ?_) (fun cdv A outer s H vs Q E hr h => ?_)
  · obtain ⟨z, rfl, _⟩ := h
    rfl
  · obtain ⟨z, rfl, hl, hc, k⟩ := h
    have nd := scRowOf.nd
    have big := line_big
    obtain ⟨row, hne, hgood, hx, hrun⟩ := read_row hc
    have hsg := chk_sgn _ _ _ hc
    refine ⟨_, (pss1_cons (PS1.of (ps_set (i := 1) nd rfl (Or.inl rfl) (pe_lst (pa_cons (pe_lst pa_nil) pa_nil))))
      (pss1_cons (ps_for1 PassesOwn.never rfl (pi_list1 (pe_bm01 PySem.F.plainAttrs_str PySem.F.slot_str_split PySem.F.type_str_split mt_split (pe_replace (pe_replace (PE1.of (pv 0)))))) (pg_name (i := 2) nd rfl (Or.inl rfl))
        (PSs1.of (pss_one (ps_if (pt_cmpR op_eq (pv 2) pe_str (nomark _))
          (pss_one (ps_expr (pe_bm PySem.F.plainAttrs_list PySem.F.slot_list_append PySem.F.type_list_append mt_append (pv 1) (pa_cons (pe_lst pa_nil) pa_nil))))
          (pss_one (ps_if (pt_cmpR op_eq (pv 2) pe_str (nomark _))
            (pss_cons (ps_set (i := 3) nd rfl (Or.inl rfl) (pe_bm0 PySem.F.plainAttrs_list PySem.F.slot_list_pop PySem.F.type_list_pop mt_pop (pv 1)))
            (pss_cons (ps_set (i := 4) nd rfl (Or.inl rfl) (pe_bm0 PySem.F.plainAttrs_list PySem.F.slot_list_pop PySem.F.type_list_pop mt_pop (pe_ix ix_list (pv 1) (pe_un un_neg pe_int) (fun _ _ => rfl))))
            (pss_one (ps_expr (pe_bm PySem.F.plainAttrs_list PySem.F.slot_list_append PySem.F.type_list_append mt_append (pe_ix ix_list (pv 1) (pe_un un_neg pe_int) (fun _ _ => rfl)) (pa_cons (pe_fn F_knot (hr.mono (by decide)) rfl (pa_cons (pe_fn F_mark (hr.mono (by decide)) rfl (pa_cons (pv 4) pa_nil)) (pa_cons (pv 3) pa_nil))) pa_nil))))))
            (pss_one (ps_expr (pe_bm PySem.F.plainAttrs_list PySem.F.slot_list_append PySem.F.type_list_append mt_append (pe_ix ix_list (pv 1) (pe_un un_neg pe_int) (fun _ _ => rfl)) (pa_cons (pe_fn F_knot (hr.mono (by decide)) rfl (pa_cons (pv 2) (pa_cons (pe_lst pa_nil) pa_nil))) pa_nil))))))))))
      (PSs1.of (pss_one (ps_ret (pe_ix ix_list (pv 1) pe_int (fun _ _ => rfl))))))), ?_⟩
    refine ⟨Nat.zero_le _, fun p0 hp0 => ⟨(by show 1 ≤ sizeLine; decide), fun pl hpl => ?_⟩⟩
    have hl1 := rep_len1 (z := z) (y1 := Str.ofString "(") (z1 := Str.ofString " ( ") (by decide +kernel) (by decide +kernel)
    have hl2 := rep_len2 (z := Txt.replace z (Str.ofString "(") (Str.ofString " ( ")) (y1 := Str.ofString ")") (z1 := Str.ofString " ) ") (by decide +kernel) (by decide +kernel)
    have hws := words_line (z := z) (y1 := Str.ofString "(") (z1 := Str.ofString " ( ") (y2 := Str.ofString ")") (z2 := Str.ofString " ) ") (by decide +kernel) (by decide +kernel) (by decide +kernel) (by decide +kernel) hsg
    refine ⟨_, rfl, _, rfl, (by omega), _, rfl, (by omega), rfl, _, rfl, rfl, (by omega), fun wa hwa => ?_⟩
    rw [hws]
    have hwl := spl_len z.cps.toList []
    have hzl : z.cps.toList.length = z.length := by simp [Str.length]
    generalize spl [] z.cps.toList = ws at hrun hwl ⊢
    have x0 : Ext G0 H G0 H := Ext.refl (fun _ _ e => nomatch e)
    have x1 := x0.trans (Ext.tmp (o := .lst []) x0.gh hp0)
    have x2 := x1.trans (Ext.tmp (o := .lst [V.ref p0]) x1.gh hpl)
    have x3 := x2.trans (Ext.tmp (o := .lst (ws.map V.str)) x2.gh hwa)
    have npl : pl ≠ p0 := fun z => by rw [z, upd_same] at hpl; cases hpl
    have nwl : wa ≠ pl := fun z => by rw [z, upd_same] at hwa; cases hwa
    have nw0 : wa ≠ p0 := fun z => by rw [z, upd_ne (Ne.symm npl), upd_same] at hwa; cases hwa
    refine ⟨wa, rfl, ⟨_, SqL.of upd_same⟩, for_list (K := K) (a := wa) (xs := ws.map V.str) (RowInv H z pl wa ws row)
      ⟨G0, [p0], [[]], none, none, none, rfl, x3, (by rw [upd_ne (Ne.symm nwl), upd_same]; rfl), upd_same, (by simp [nwl, nw0, npl]), ?_, .cons (tv := []) (by rw [upd_ne (Ne.symm nw0), upd_ne (Ne.symm npl), upd_same]) .nil .nil, (by rw [List.drop_zero]; exact hrun), (by simp), (by simp)⟩
      (fun i σ H2 _ ⟨_, _, _, _, _, _, _, _, _, hw, _, _, _, _, _, _⟩ => SqL.of hw) ?_ ?_⟩
    · intro p hp
      refine ⟨rfl, ?_⟩
      simp only [List.mem_cons, List.not_mem_nil, or_false] at hp
      rcases hp with rfl | rfl | rfl
      · exact x2.h.none hwa
      · exact x1.h.none hpl
      · exact hp0
    · rintro i y σ H2 hi ⟨G2, ps, lv, v2, v3, v4, rfl, x, hlv, hw, hnd, nG, lvs, run, b1, b2⟩
      have hil : i < ws.length := by
        have := (List.getElem?_eq_some_iff.mp hi).1
        rwa [List.length_map] at this
      obtain rfl : V.str ws[i] = y := by
        rw [List.getElem?_map, List.getElem?_eq_getElem hil] at hi
        exact Option.some.inj hi
      rw [List.drop_eq_getElem_cons hil, lvRun] at run
      generalize ws[i] = wi at run ⊢
      obtain ⟨lv', hstep, run⟩ := Option.bind_eq_some_iff.mp run
      have hplH := (nG pl (by simp)).2
      have hplG := (nG pl (by simp)).1
      have hwaG := (nG wa (by simp)).1
      obtain ⟨hwn, hnd⟩ := List.nodup_cons.mp hnd
      obtain ⟨hpn, hndp⟩ := List.nodup_cons.mp hnd
      have hwpl : wa ≠ pl := fun z => hwn (by rw [z]; exact List.mem_cons_self)
      have hwps : ∀ p ∈ ps, wa ≠ p := fun p hp z => hwn (by rw [z]; exact List.mem_cons_of_mem _ hp)
      have hplps : ∀ p ∈ ps, pl ≠ p := fun p hp z => hpn (by rw [z]; exact hp)
      refine ⟨_, rfl, rfl, decide (wi = ⟨#[40]⟩), (by rw [str_eq p40]), ?_⟩
      refine ite2 (fun h => ?_) (fun h => ?_)
      · -- a bracket opens
        have h := of_decide_eq_true h
        subst h
        have e : [] :: lv = lv' := by rw [lvStep.eq_def, if_pos rfl] at hstep; exact Option.some.inj hstep
        subst e
        refine ⟨_, rfl, .inl ⟨rfl, _, SqL.of hlv⟩, Nat.zero_le _, fun pn hpn => ⟨pl, _, _, rfl, rfl, same_upd hpn _ _ hlv, (by rw [List.length_map, List.length_reverse]; omega), ?_⟩⟩
        have npn : ∀ p o, H2 p = some o → pn ≠ p := fun p o e z => by rw [← z, hpn] at e; cases e
        have npl' := npn pl _ hlv
        have nwa' := npn wa _ hw
        have nps : ∀ p ∈ ps, pn ≠ p := fun p hp => by obtain ⟨o, ho⟩ := lvs.there p hp; exact npn p o ho
        refine ⟨G2, pn :: ps, [] :: lv, _, _, _, rfl, (x.trans (Ext.tmp x.gh hpn)).mut hplG hplH, (by rw [upd_same]; simp), ?_, ?_, ?_, .cons (tv := []) (by rw [upd_ne npl', upd_same]) .nil (lvs.keep (Same.refl _) fun p hp o ho => ?_), run, (by rw [List.length_cons]; omega), ?_⟩
        · rw [upd_ne hwpl, upd_ne (Ne.symm nwa')]; exact hw
        · refine List.nodup_cons.mpr ⟨?_, List.nodup_cons.mpr ⟨?_, List.nodup_cons.mpr ⟨fun z => nps _ z rfl, hndp⟩⟩⟩
          · intro z
            rcases List.mem_cons.mp z with z | z
            · exact hwpl z
            · rcases List.mem_cons.mp z with z | z
              · exact nwa' z.symm
              · exact hwps _ z rfl
          · intro z
            rcases List.mem_cons.mp z with z | z
            · exact npl' z.symm
            · exact hplps _ z rfl
        · intro p hp
          simp only [List.mem_cons] at hp
          rcases hp with rfl | rfl | rfl | hp
          · exact nG _ (by simp)
          · exact nG _ (by simp)
          · exact ⟨x.gh.none hpn, x.h.none hpn⟩
          · exact nG _ (by simp [hp])
        · rw [upd_ne (Ne.symm (hplps p hp)), upd_ne (Ne.symm (nps p hp))]; exact ho
        · intro ts hts
          rcases List.mem_cons.mp hts with rfl | hts
          · exact Nat.zero_le _
          · exact Nat.le_succ_of_le (b2 ts hts)
      have h40 : wi ≠ ⟨#[40]⟩ := fun z => h (decide_eq_true z)
      refine ⟨_, rfl, rfl, decide (wi = ⟨#[41]⟩), (by rw [str_eq p41]), ?_⟩
      refine ite2 (fun h => ?_) (fun h => ?_)
      · -- a bracket closes
        have h := of_decide_eq_true h
        subst h
        obtain ⟨ts, r0, t, fs, rfl, rfl⟩ := step_close hstep
        have hts := b2 ts (by simp)
        have hrs := b2 (r0 ++ [t]) (by simp)
        rw [List.length_append, List.length_singleton] at hrs
        obtain ⟨p, tv, _, rfl, h1, r1, lvs⟩ := lvs.one
        obtain ⟨p2, tv2, ps', rfl, h2, r2, lvs⟩ := lvs.one
        rw [List.map_append] at r2
        obtain ⟨t0, y, rfl, rt0, ry⟩ := reps_snoc r2
        have ht0 := rt0.length
        rw [List.length_map] at ht0
        obtain ⟨hp2n, hndp⟩ := List.nodup_cons.mp hndp
        obtain ⟨hp2n', hndp'⟩ := List.nodup_cons.mp hndp
        have npp2 : p ≠ p2 := fun z => hp2n (by rw [z]; exact List.mem_cons_self)
        have nplp := hplps p (by simp)
        have nplp2 := hplps p2 (by simp)
        obtain ⟨gp, hp⟩ := nG p (by simp)
        obtain ⟨gp2, hp2⟩ := nG p2 (by simp)
        have elv : (p :: p2 :: ps').reverse.map V.ref = (p2 :: ps').reverse.map V.ref ++ [V.ref p] := by simp
        have elv2 : (p2 :: ps').reverse.map V.ref = ps'.reverse.map V.ref ++ [V.ref p2] := by simp
        rw [elv] at hlv
        -- trees = levels.pop()
        refine ⟨_, rfl, .inl ⟨rfl, _, SqL.of hlv⟩, pl, _, _, rfl, rfl, hlv, last_at _ _, ?_⟩
        rw [List.dropLast_concat]
        have xa := x.mut (o := .lst ((p2 :: ps').reverse.map V.ref)) hplG hplH
        have hpla : upd H2 pl (.lst ((p2 :: ps').reverse.map V.ref)) pl = some (.lst (ps'.reverse.map V.ref ++ [V.ref p2])) := by rw [upd_same, elv2]
        have h2a : upd H2 pl (.lst ((p2 :: ps').reverse.map V.ref)) p2 = some (.lst (t0 ++ [y])) := by rw [upd_ne (Ne.symm nplp2)]; exact h2
        -- above = levels[-1].pop()
        refine ⟨_, rfl, _, rfl, pl, _, _, _, rfl, rfl, SqL.of hpla, atI_last _ _, .inl ⟨rfl, _, SqL.of h2a⟩, p2, _, _, rfl, rfl, h2a, last_at _ _, ?_⟩
        rw [List.dropLast_concat]
        have xb := xa.mut (o := .lst t0) gp2 hp2
        have hplb : upd (upd H2 pl (.lst ((p2 :: ps').reverse.map V.ref))) p2 (.lst t0) pl = some (.lst (ps'.reverse.map V.ref ++ [V.ref p2])) := by rw [upd_ne nplp2]; exact hpla
        have h2b : upd (upd H2 pl (.lst ((p2 :: ps').reverse.map V.ref))) p2 (.lst t0) p2 = some (.lst t0) := upd_same
        have h1b : upd (upd H2 pl (.lst ((p2 :: ps').reverse.map V.ref))) p2 (.lst t0) p = some (.lst tv) := by rw [upd_ne npp2, upd_ne (Ne.symm nplp)]; exact h1
        have hwb : upd (upd H2 pl (.lst ((p2 :: ps').reverse.map V.ref))) p2 (.lst t0) wa = some (.lst (ws.map V.str)) := by rw [upd_ne (hwps p2 (by simp)), upd_ne hwpl]; exact hw
        have ksb : ∀ q ∈ ps', ∀ o, H2 q = some o → upd (upd H2 pl (.lst ((p2 :: ps').reverse.map V.ref))) p2 (.lst t0) q = some o := fun q hq o ho => by
          rw [upd_ne (fun z => hp2n' (by rw [← z]; exact hq)), upd_ne (Ne.symm (hplps q (by simp [hq])))]; exact ho
        generalize upd (upd H2 pl (.lst ((p2 :: ps').reverse.map V.ref))) p2 (.lst t0) = Hb at *
        have xc := xb.freeze gp hp h1b
        have sg : Same G2 (upd G2 p (.lst tv)) := same_upd gp
        -- levels[-1].append(knot(mark_of(above), trees))
        refine ⟨_, rfl, _, rfl, pl, _, _, _, rfl, rfl, SqL.of hplb, atI_last _ _, .inl ⟨rfl, _, SqL.of h2b⟩, _, rfl, upd G2 p (.lst tv), y, t, rfl, xc.gh, ry.mono sg, _, rfl, upd G2 p (.lst tv), t.mark, .ref p, ts, rfl, xc.gh, .lst upd_same (r1.mono sg), (by omega), fun G4 H4 r x4 rr => ?_⟩
        have h24 := x4.h _ _ h2b
        refine ⟨p2, t0, r, rfl, rfl, h24, (by omega), ?_⟩
        have gp24 : G4 p2 = none := x4.keep h2b (by rw [upd_ne (Ne.symm npp2)]; exact gp2)
        have keep4 : ∀ q o, Hb q = some o → q ≠ p → G2 q = none → G4 q = none := fun q o ho hq gq => x4.keep ho (by rw [upd_ne hq]; exact gq)
        have nwp := hwps p (by simp)
        refine ⟨G4, p2 :: ps', (r0 ++ [.node t.mark ts]) :: fs, _, _, _, rfl, (xc.trans x4).mut gp24 hp2, ?_, ?_, ?_, ?_, .cons upd_same ?_ (lvs.keep (sg.trans x4.g) fun q hq o ho => ?_), run, ?_, ?_⟩
        · rw [upd_ne nplp2, x4.h _ _ hplb, elv2]
        · rw [upd_ne (hwps p2 (by simp))]; exact x4.h _ _ hwb
        · refine List.nodup_cons.mpr ⟨fun z => ?_, List.nodup_cons.mpr ⟨fun z => hplps _ (List.mem_cons_of_mem _ z) rfl, hndp⟩⟩
          rcases List.mem_cons.mp z with z | z
          · exact hwpl z
          · exact hwps _ (List.mem_cons_of_mem _ z) rfl
        · intro q hq
          simp only [List.mem_cons] at hq
          rcases hq with rfl | rfl | rfl | hq
          · exact ⟨keep4 _ _ hwb nwp hwaG, (nG _ (by simp)).2⟩
          · exact ⟨keep4 _ _ hplb nplp hplG, hplH⟩
          · exact ⟨gp24, hp2⟩
          · obtain ⟨o, ho⟩ := lvs.there q hq
            obtain ⟨n1, n2⟩ := nG q (by simp [hq])
            exact ⟨keep4 _ _ (ksb q hq o ho) (fun z => hp2n (by rw [← z]; exact List.mem_cons_of_mem _ hq)) n1, n2⟩
        · rw [List.map_append]
          exact (rt0.mono (sg.trans x4.g)).append (.cons rr .nil)
        · rw [upd_ne (fun z => hp2n' (by rw [← z]; exact hq))]
          exact x4.h _ _ (ksb q hq o ho)
        · simp only [List.length_cons] at b1 ⊢
          omega
        · intro us hus
          rcases List.mem_cons.mp hus with rfl | hus
          · rw [List.length_append, List.length_singleton]; omega
          · exact Nat.le_succ_of_le (b2 us (by simp [hus]))
      · -- a word
        have h41 : wi ≠ ⟨#[41]⟩ := fun z => h (decide_eq_true z)
        obtain ⟨r, fs, rfl, rfl⟩ := step_word h40 h41 hstep
        have hrs := b2 r (by simp)
        obtain ⟨p, tv, ps', rfl, h1, r1, lvs⟩ := lvs.one
        obtain ⟨hpn', hndp'⟩ := List.nodup_cons.mp hndp
        have nplp := hplps p (by simp)
        have nwp := hwps p (by simp)
        obtain ⟨gp, hp⟩ := nG p (by simp)
        have htv := r1.length
        rw [List.length_map] at htv
        have elv : (p :: ps').reverse.map V.ref = ps'.reverse.map V.ref ++ [V.ref p] := by simp
        rw [elv] at hlv
        refine ⟨_, rfl, _, rfl, pl, _, _, _, rfl, rfl, SqL.of hlv, atI_last _ _, .inl ⟨rfl, _, SqL.of h1⟩, _, rfl, Nat.zero_le _, fun q hq => ?_⟩
        have xa := x.trans (Ext.add (o := .lst []) x.gh hq)
        refine ⟨upd G2 q (.lst []), wi, .ref q, [], rfl, xa.gh, .lst upd_same .nil, Nat.zero_le _, fun G4 H4 rv x4 rr => ?_⟩
        have nq : ∀ c o, H2 c = some o → c ≠ q := fun c o e z => by rw [z, hq] at e; cases e
        have up : ∀ c o, H2 c = some o → H4 c = some o := fun c o e => x4.h _ _ (same_upd hq _ _ e)
        have keep4 : ∀ c o, H2 c = some o → G2 c = none → G4 c = none := fun c o e g => x4.keep (same_upd hq _ _ e) (by rw [upd_ne (nq c o e)]; exact g)
        have sg : Same G2 (upd G2 q (.lst [])) := same_upd (x.gh.none hq)
        refine ⟨p, tv, rv, rfl, rfl, up _ _ h1, (by omega), ?_⟩
        refine ⟨G4, p :: ps', (r ++ [.node wi []]) :: fs, _, _, _, rfl, (xa.trans x4).mut (keep4 _ _ h1 gp) hp, ?_, ?_, ?_, ?_, .cons upd_same ?_ (lvs.keep (sg.trans x4.g) fun c hc o ho => ?_), run, ?_, ?_⟩
        · rw [upd_ne nplp, up _ _ hlv, elv]
        · rw [upd_ne nwp]; exact up _ _ hw
        · refine List.nodup_cons.mpr ⟨fun z => ?_, List.nodup_cons.mpr ⟨fun z => hplps _ z rfl, hndp⟩⟩
          rcases List.mem_cons.mp z with z | z
          · exact hwpl z
          · exact hwps _ z rfl
        · intro c hc
          simp only [List.mem_cons] at hc
          rcases hc with rfl | rfl | rfl | hc
          · exact ⟨keep4 _ _ hw hwaG, (nG _ (by simp)).2⟩
          · exact ⟨keep4 _ _ hlv hplG, hplH⟩
          · exact ⟨keep4 _ _ h1 gp, hp⟩
          · obtain ⟨o, ho⟩ := lvs.there c hc
            obtain ⟨n1, n2⟩ := nG c (by simp [hc])
            exact ⟨keep4 _ _ ho n1, n2⟩
        · rw [List.map_append]
          exact (r1.mono (sg.trans x4.g)).append (.cons rr .nil)
        · rw [upd_ne (fun z => hpn' (by rw [← z]; exact hc))]
          exact up _ _ ho
        · omega
        · intro us hus
          rcases List.mem_cons.mp hus with rfl | hus
          · rw [List.length_append, List.length_singleton]; omega
          · exact Nat.le_succ_of_le (b2 us (by simp [hus]))
    · rintro σ H2 ⟨G2, ps, lv, v2, v3, v4, rfl, x, hlv, hw, hnd, nG, lvs, run, b1, b2⟩
      rw [List.length_map, List.drop_length, lvRun] at run
      obtain rfl := Option.some.inj run
      cases lvs with
      | cons h r t =>
        cases t
        rename_i p tv
        obtain ⟨n1, n2⟩ := nG p (by simp)
        refine ⟨_, rfl, pl, _, _, _, rfl, rfl, SqL.of hlv, atI_nat (j := 0) rfl, ?_⟩
        exact k _ _ _ row (x.freeze n1 n2 h) (.lst upd_same (r.mono (same_upd n1))) hgood hx.symm
end
end K10
namespace K10
open PySem L2 TT TX
/-- what is a line -/
def isLine (l : List Nat) : Prop := l = [] ∨ chk 40 0 l = true
section
variable {P : Program} {w : World} {K : PySem.W.Frag} {mg : Str → Option Value} {base : Heap}
/-! ### read -/
def spRead (CR : Addr) : Sp := fun vs H Q E => ∃ z : Str, vs = [.str z] ∧ asc z ∧ z.length ≤ 10000 ∧
  (isLine z.cps.toList → ∀ (G' H' : Hp) (r : V) (row : List Tr), Ext G0 H G' H' → Rep G' r (rowD row) → goods row → txts false row = z.cps.toList → Q r H') ∧
  (¬ isLine z.cps.toList → ∀ H' : Hp, Same H H' → E (.ref CR) none H')
theorem scRead : FnScope ["line"] ["line"] (defScope sRead) := ⟨rfl, rfl, rfl, by decide +kernel, rfl, by decide +kernel, by decide +kernel⟩
theorem empty_eq (z : Str) : decide (V.str z = V.str (Str.ofString "")) = decide (z.cps.toList = []) := by
  rw [Bool.eq_iff_iff, decide_eq_true_iff, decide_eq_true_iff]
  constructor
  · intro h
    injection h with h
    rw [h]
    rfl
  · intro h
    congr 1
    exact Str.ext' (Array.toList_inj.mp h)
theorem ok_read {CR : Addr} {f : Addr} {fd : FuncData} (F : Fun K "read" "read" sRead f fd) (hC : ExcV K CR) (mC : mg "NoRow" = some (.ref CR)) (F_nbr : Ok1 P w K mg base 3 "neighbours_fit" ["line"] spNbr)
    (F_brk : Ok1 P w K mg base 3 "brackets_fit" ["line"] spBrk) (F_rowof : OkT P w K mg base 5 "row_of" ["line"] spRowOf) : FnOk P w K mg base (CXr P w) 7 f fd ["line"] (spRead CR) := by
  refine fun_okR F scRead (fun vs H Q E h => ?_) (fun cdv A outer s H vs Q E hr h => ?_)
  · obtain ⟨z, rfl, _⟩ := h
    rfl
  · obtain ⟨z, rfl, ha, hl, kq, ke⟩ := h
    have nd := scRead.nd
    have big := line_big
    refine ⟨_, (pss_ifTok op_eq (pv 0) (nomark _)
      (pss_one (ps_ret (pe_lst pa_nil)))
      pss_nil
      (pss1_cons (PS1.of (ps_if (PW.pt (pw_or (pt_not (pt_val (pe_fn F_nbr (hr.mono (by decide)) rfl (pa_cons (pv 0) pa_nil)))) (pw_or1 (pt_not (pt_val (pe_fn F_brk (hr.mono (by decide)) rfl (pa_cons (pv 0) pa_nil)))))))
        (pss_one (ps_raise raises_cx hC rfl rfl mC (pa_cons (pe_fstr (pfs_cons (pf_text (n := 100) (by decide)) (pfs_cons (pf_repr (pv 0)) pfs_nil)) (by decide)) pa_nil)))
        pss_nil))
      (pss1_one (ps_ret1 (pe_fn1 F_rowof (hr.mono (by decide)) rfl (pa_cons (pv 0) pa_nil)))))), ?_⟩
    refine ⟨_, rfl, rfl, decide (z.cps.toList = []), (by rw [empty_eq]), ?_⟩
    refine ite2 (fun h => ?_) (fun h => ?_)
    · have h := of_decide_eq_true h
      refine ⟨Nat.zero_le _, fun p hp => ?_⟩
      have x0 : Ext G0 H G0 H := Ext.refl (fun _ _ e => nomatch e)
      exact kq (.inl h) _ _ _ [] (x0.trans (Ext.add (o := .lst []) x0.gh hp)) (.lst upd_same .nil) trivial h.symm
    have h0 : ¬ z.cps.toList = [] := fun e => h (decide_eq_true e)
    have ce := chk_eq z.cps.toList 40 0
    have raise : chk 40 0 z.cps.toList = false → tRaise CR E (tCons (tText fun σ H => True ∧ (∃ z, σ[0]? = some (some (.str z)) ∧ z.length ≤ 100000 ∧ asc z) ∧ True) tNil) { nx := fun _ _ => True, rt := Q } (start ["line"] [V.str z]) H := by
      intro hb
      refine ⟨⟨trivial, ⟨z, rfl, by omega, ha⟩, trivial⟩, fun y => ⟨(by show 1 ≤ sizeLine; decide), ke ?_ H (Same.refl H)⟩⟩
      rintro (h | h)
      · exact h0 h
      · rw [hb] at h; cases h
    refine ⟨_, rfl, z, rfl, ha, hl, _, rfl, ?_⟩
    cases hn : nbr 40 (z.cps.toList ++ [41]) with
    | false =>
      refine iteT ?_
      exact raise (by rw [ce, hn]; rfl)
    | true =>
      refine iteF ⟨_, rfl, z, rfl, ha, _, rfl, ?_⟩
      cases hb : brk 0 z.cps.toList with
      | false =>
        refine iteT ?_
        exact raise (by rw [ce, hn, hb]; rfl)
      | true =>
        refine iteF ?_
        have hc : chk 40 0 z.cps.toList = true := by rw [ce, hn, hb]; rfl
        exact ⟨_, rfl, z, rfl, hl, hc, kq (.inr hc)⟩
end
end K10
namespace K10
open PySem L2 TT TX
theorem kit_tuple_str (K : PySem.W.Frag) : PySem.W.kitOne K (.type "tuple") (.type "str") = some false := by rfl
/-- between two turns of _law_line_of -/
inductive LineInv (G H : Hp) (v : V) (l : List Nat) (m : Nat) (σ : L2.St) (H2 : Hp) : Prop
  | mk (x : List Nat) (pt : Addr) (tv : List V) (us : List (Option Tr)) (z : Option V) (e : σ = [some v, some (.str ⟨x.toArray⟩), some (.ref pt), z]) (ext : Ext G H G H2) (nG : G pt = none) (nH : H pt = none) (hpt : H2 pt = some (.lst tv))
      (rus : Reps G tv (us.reverse.map itemD)) (hwt : wt us = m) (hm : m ≤ 3000) (hg : ∀ t, some t ∈ us → good t) (hx : x ++ sOut (nb x) us = l) : LineInv G H v l m σ H2
section
variable {P : Program} {w : World} {K : PySem.W.Frag} {mg : Str → Option Value} {base : Heap}
/-! ### _law_line_of -/
def spLineOf : Sp := fun vs H Q _ => ∃ (G : Hp) (v : V) (ts : List Tr), vs = [v] ∧ Same G H ∧ Rep G v (rowD ts) ∧ goods ts ∧ knotsOf ts ≤ 1000 ∧ (txts false ts).length ≤ 20000 ∧
  ∀ H' : Hp, Same H H' → Q (.str ⟨(txts false ts).toArray⟩) H'
theorem scLineOf : FnScope ["_law_row", "_law_line", "_law_todo", "_law_tree"] ["_law_row"] (defScope sLineOf) := ⟨rfl, rfl, rfl, by decide +kernel, rfl, by decide +kernel, by decide +kernel⟩
theorem goods_mem : ∀ {ts : List Tr}, goods ts → ∀ t ∈ ts, good t
  | _ :: _, h, t, ht => by
    rw [goods] at h
    rcases List.mem_cons.mp ht with rfl | ht
    · exact h.1
    · exact goods_mem h.2 t ht
theorem ok_lineof {f : Addr} {fd : FuncData} (F : Fun K "_law_line_of" "_law_line_of" sLineOf f fd) (T : Txt mg) : FnOk P w K mg base CX0 5 f fd ["_law_row"] spLineOf := by
  refine F.ok scLineOf (fun vs H Q E h => ?_) (fun cdv A outer s H vs Q E hr h => ?_)
  · obtain ⟨G, v, ts, rfl, _⟩ := h
    rfl
  · obtain ⟨G, v, ts, rfl, sm, rv, hgd, hkt, hlen, k⟩ := h
    have nd := scLineOf.nd
    have hu := hr.units0
    have big := line_big
    refine ⟨_, (pss_cons (ps_set (i := 1) nd rfl (Or.inl rfl) pe_str)
      (pss_cons (ps_set (i := 2) nd rfl (Or.inl rfl) (pe_listRev rfl T.reversed rfl T.list hr.hd (pa_cons (pv 0) pa_nil)))
      (pss_cons (ps_while PassesOwn.never (pt_cmpR (op_neE hu) (pv 2) (pe_lst pa_nil) (nomark _))
        (pss_cons (ps_set (i := 3) nd rfl (Or.inl rfl) (pe_bm0 PySem.F.plainAttrs_list PySem.F.slot_list_pop PySem.F.type_list_pop mt_pop (pv 2)))
        (pss_one (ps_if (pt_val (pe_callB call_isi rfl T.isinstance bt_isinstance (pa_cons (pv 3) (pa_cons (pe_ty rfl T.str bt_str) pa_nil))))
          (pss_one (ps_set (i := 1) nd rfl (Or.inl rfl) (pe_op op_add_str (pv 1) (pv 3))))
          (pss_cons (ps_ifM (PW.pt (pw_and (pt_cmpR op_ne (pv 1) pe_str (nomark _)) (pw_and1 (pt_cmpR op_ne (pe_ix ix_str (pv 1) (pe_un un_neg pe_int) (fun _ _ => rfl)) pe_str (nomark _)))))
            (pss_one (ps_set (i := 1) nd rfl (Or.inl rfl) (pe_op op_add_str (pv 1) pe_str)))
            pss_nil)
          (pss_cons (ps_set (i := 1) nd rfl (Or.inl rfl) (pe_op op_add_str (pv 1) (pe_ix ix_tup (pv 3) pe_int (fun _ _ => rfl))))
          (pss_one (ps_if (pt_cmpR op_gt (pe_callB call_len_seq rfl T.len bt_len (pa_cons (pv 3) pa_nil)) pe_int (nomark _))
            (pss_cons (ps_set (i := 1) nd rfl (Or.inl rfl) (pe_op op_add_str (pv 1) pe_str))
            (pss_one (ps_set (i := 2) nd rfl (Or.inl rfl) (pe_op op_cat (pe_op op_cat (pv 2) (pe_lst (pa_cons pe_str pa_nil))) (pe_listRvd rfl T.reversed rfl T.list hr.hd (pa_cons (pe_slice sl_tup (pv 3) (po_some pe_int) po_none) pa_nil))))))
            pss_nil))))))))
      (pss_one (ps_ret (pv 1)))))), ?_⟩
    obtain ⟨ra, rvs, rfl, hra, rts⟩ := rv.row
    refine ⟨_, rfl, ra, rvs, rfl, SqL.of (sm _ _ hra), fun p0 hp0 => ?_⟩
    refine ⟨LineInv G H (.ref ra) (txts false ts), ⟨_, [], p0, rvs.reverse, ts.map some, none, rfl, Ext.tmp sm hp0, sm.none hp0, hp0, upd_same, ?_, rfl, ?_, ?_, ?_⟩, ?_⟩
    · have := reps_rev rts
      rw [← List.map_reverse] at this
      rw [← List.map_reverse, List.map_map]
      exact this
    · rw [wt_map]; omega
    · intro t ht
      obtain ⟨u, hu, e⟩ := List.mem_map.mp ht
      cases e
      exact goods_mem hgd t hu
    · have := sOut_map false ts []
      rw [List.append_nil] at this
      show [] ++ sOut false _ = _
      rw [this]
      simp [sOut]
    rintro m σ H2 ⟨x, pt, tv, us, z, rfl, ex, nG, nH, hpt, rus, rfl, hm, hg, hx⟩
    refine ⟨_, rfl, Nat.zero_le _, fun pe hpe => ⟨pt, pe, tv, rfl, rfl, SqL.of (same_upd hpe _ _ hpt), SqL.of upd_same, _, rfl, ?_⟩⟩
    have x1 := ex.trans (Ext.tmp (o := .lst []) ex.gh hpe)
    have hpt1 := same_upd (o := .lst []) hpe _ _ hpt
    have hlx : x.length ≤ 20000 := by
      have := congrArg List.length hx
      rw [List.length_append] at this
      omega
    cases us with
    | nil =>
      have e0 : tv = [] := by
        have := rus.length
        exact List.length_eq_zero_iff.mp this
      subst e0
      refine iteF ⟨_, rfl, ?_⟩
      have e1 : x = txts false ts := by simpa [sOut] using hx
      rw [e1]
      exact k _ x1.h
    | cons u us =>
      rw [List.reverse_cons, List.map_append] at rus
      obtain ⟨t0, y, rfl, r0, ry⟩ := reps_snoc rus
      have hne : (t0 ++ [y]).isEmpty = false := by cases t0 <;> rfl
      have ht0 := r0.length
      rw [List.length_map, List.length_reverse] at ht0
      have hlw := len_wt us
      rw [hne]
      refine iteT ⟨fun σ' H' => ∃ m', m' < wt (u :: us) ∧ LineInv G H (.ref ra) (txts false ts) m' σ' H', fun _ _ z => z, ?_⟩
      refine ⟨_, rfl, .inl ⟨rfl, _, SqL.of hpt1⟩, pt, _, _, rfl, rfl, hpt1, last_at t0 _, ?_⟩
      rw [List.dropLast_concat]
      have x2 := x1.mut (o := .lst t0) nG nH
      have hpt2 : upd (upd H2 pe (.lst [])) pt (.lst t0) pt = some (.lst t0) := upd_same
      generalize upd (upd H2 pe (.lst [])) pt (.lst t0) = H3 at *
      cases u with
      | none =>
        cases ry
        refine ⟨_, rfl, _, _, _, _, rfl, .str _, kit_str_str K, _, rfl, iteT ?_⟩
        refine ⟨_, rfl, _, rfl, _, _, rfl, rfl, ?_, ?_⟩
        · show x.toArray.size + 1 ≤ sizeLine
          rw [List.size_toArray]; omega
        rw [wt] at hm
        refine ⟨wt us, by rw [wt]; omega, x ++ [41], pt, t0, us, some (.str ⟨#[41]⟩), ?_, x2, nG, nH, hpt2, r0, rfl, by omega, fun t ht => hg t (List.mem_cons_of_mem _ ht), sOut_close hx⟩
        rw [mk_app]; rfl
      | some t =>
        have hgt := hg t List.mem_cons_self
        obtain ⟨tra, kv, rfl, htra, rkv⟩ := Rep.tree ry
        have ht2 := x2.gh _ _ htra
        have hkvl := rkv.length
        rw [List.length_map] at hkvl
        have hke := knots_eq t
        have hlk := length_le_knots t.kids
        rw [wt] at hm
        have hmk : Wrd t.mark.cps.toList := by cases t; rw [good] at hgt; exact hgt.1
        have hgk : goods t.kids := by cases t; rw [good] at hgt; exact hgt.2
        have et : t = .node t.mark t.kids := by cases t; rfl
        rw [et] at hx
        obtain ⟨c1, c2⟩ := sOut_tree hx hmk
        refine ⟨_, rfl, _, _, _, _, rfl, .tup ht2, kit_tuple_str K, _, rfl, iteF ?_⟩
        -- a blank, or none
        refine ⟨fun σ' H' => σ' = [some (.ref ra), some (.str ⟨(x ++ (if nb x = true then [32] else [])).toArray⟩), some (.ref pt), some (.ref tra)] ∧ H' = H3, ?_, ?_⟩
        · refine ⟨_, rfl, rfl, !decide (x = []), (by rw [empty_eq]), ?_⟩
          cases hxe : x.isEmpty with
          | true =>
            have hx0 := List.isEmpty_iff.mp hxe
            subst hx0
            refine iteF (iteF ⟨?_, rfl⟩)
            rfl
          | false =>
            obtain ⟨x0, c, rfl⟩ := last_of x hxe
            rw [decide_eq_false (by simp), nb_snoc]
            refine iteT ⟨_, rfl, _, rfl, _, _, c, rfl, rfl, ?_, (by show atI (x0 ++ [c]) (-1) = some c; exact atI_last x0 c), rfl, !decide (c = 40), (by rw [one_eq p40]), ?_⟩
            · show (x0 ++ [c]).toArray.size ≤ sizeLine
              rw [List.size_toArray]; omega
            by_cases hc : c = 40
            · rw [decide_eq_true hc]
              refine iteF ⟨?_, rfl⟩
              subst hc
              simp
            · rw [decide_eq_false hc]
              refine iteT ⟨_, rfl, _, _, rfl, rfl, ?_, ?_⟩
              · show (x0 ++ [c]).toArray.size + 1 ≤ sizeLine
                rw [List.size_toArray]; omega
              · refine ⟨?_, rfl⟩
                rw [if_pos (by rw [bne_iff_ne]; exact hc), mk_app]
                rfl
        rintro σ' H' ⟨rfl, rfl⟩
        have hbl : (if nb x = true then [32] else ([] : List Nat)).length ≤ 1 := by split <;> simp
        have hml : (x ++ (if nb x = true then [32] else []) ++ t.mark.cps.toList).length ≤ 20000 := by
          have := congrArg List.length hx
          rw [sOut, txt] at this
          simp only [List.length_append] at this ⊢
          omega
        refine ⟨_, rfl, _, rfl, tra, _, _, _, rfl, rfl, SqT.of ht2, atI_nat (j := 0) rfl, _, _, rfl, rfl, ?_, ?_⟩
        · show (x ++ (if nb x = true then [32] else [])).toArray.size + t.mark.cps.size ≤ sizeLine
          have : t.mark.cps.size = t.mark.cps.toList.length := by simp
          rw [List.size_toArray, this]
          simp only [List.length_append] at hml ⊢
          omega
        rw [mk_app]
        refine ⟨_, rfl, tra, _, rfl, .inr (SqT.of ht2), _, _, rfl, rfl, _, rfl, ?_⟩
        refine ite2 (fun h => ?_) (fun h => ?_)
        · have h1 := of_decide_eq_true h
          have hkn : t.kids ≠ [] := by
            intro e
            rw [e] at hkvl
            rw [List.length_cons, hkvl] at h1
            simp at h1
          refine ⟨_, rfl, _, _, rfl, rfl, ?_, ?_⟩
          · show (x ++ (if nb x = true then [32] else []) ++ t.mark.cps.toList).toArray.size + 1 ≤ sizeLine
            rw [List.size_toArray]; omega
          rw [mk_app]
          refine ⟨_, rfl, (by show 1 ≤ sizeLine; decide), fun q1 h1 => ⟨pt, q1, _, _, rfl, rfl, same_upd h1 _ _ hpt2, upd_same, (by show t0.length + 1 ≤ sizeLine; omega), fun q2 h2 => ?_⟩⟩
          have x3 := x2.trans (Ext.tmp (o := .lst [V.str (Str.ofString ")")]) x2.gh h1)
          have x4 := x3.trans (Ext.tmp (o := .lst (t0 ++ [V.str (Str.ofString ")")])) x3.gh h2)
          have ht4 := x4.gh _ _ htra
          refine ⟨_, rfl, _, rfl, tra, _, rfl, SqT.of ht4, kids_not _ _, fun q3 h3 => ⟨q3, kv, rfl, SqT.of (by rw [upd_same, kids_cut]), ?_, fun q4 h4 => ?_⟩⟩
          · intro e
            rw [e] at hkvl
            exact hkn (List.length_eq_zero_iff.mp hkvl.symm)
          have x5 := x4.trans (Ext.tmp (o := .tup (cutV (V.str t.mark :: kv) (some 1) none)) x4.gh h3)
          have x6 := x5.trans (Ext.tmp (o := .lst kv.reverse) x5.gh h4)
          refine ⟨q2, q4, _, _, rfl, rfl, same_upd h4 _ _ (same_upd h3 _ _ upd_same), upd_same, ?_, fun q5 h5 => ?_⟩
          · rw [List.length_append, List.length_reverse, List.length_singleton]; omega
          have x7 := x6.trans (Ext.tmp (o := .lst (t0 ++ [V.str (Str.ofString ")")] ++ kv.reverse)) x6.gh h5)
          have hw2 : wt (t.kids.map some ++ none :: us) = 2 * knotsOf t.kids + (1 + wt us) := by rw [wt_append, wt_map, wt]
          refine ⟨wt (t.kids.map some ++ none :: us), by rw [hw2, wt]; omega, _, q5, _, t.kids.map some ++ none :: us, _, rfl, x7, x6.gh.none h5, x6.h.none h5, upd_same, ?_, rfl, by rw [hw2]; omega, ?_, c2 hkn⟩
          · rw [List.reverse_append, List.reverse_cons, List.map_append, List.map_append, p41]
            refine Reps.append (Reps.append r0 (.cons (.str _) .nil)) ?_
            have := reps_rev rkv
            rw [← List.map_reverse] at this
            rw [← List.map_reverse, List.map_map]
            exact this
          · intro u hu
            rcases List.mem_append.mp hu with hu | hu
            · obtain ⟨v, hv, e⟩ := List.mem_map.mp hu
              cases e
              exact goods_mem hgk u hv
            · rcases List.mem_cons.mp hu with hu | hu
              · cases hu
              · exact hg u (List.mem_cons_of_mem _ hu)
        · have h1 : ¬ ((V.str t.mark :: kv).length : Int) > 1 := fun z => h (decide_eq_true z)
          have hkn : t.kids = [] := by
            refine List.length_eq_zero_iff.mp ?_
            rw [List.length_cons] at h1
            omega
          exact ⟨wt us, by rw [wt]; omega, _, pt, t0, us, _, rfl, x2, nG, nH, hpt2, r0, rfl, by omega, fun u hu => hg u (List.mem_cons_of_mem _ hu), c1 hkn⟩
end
end K10
namespace K10
open PySem L2 TT TX
seal PE PA PT PS PSs
theorem word_letter {c : Nat} (h1 : 97 ≤ c) (h2 : c ≤ 122) : Word ⟨#[c]⟩ := ⟨by show 1 ≤ 1; decide, by show 1 ≤ 28; decide, fun d hd => by
  have : d = c := by simpa using hd
  omega⟩
theorem word_q {c : Nat} (h1 : 97 ≤ c) (h2 : c ≤ 122) : Word (Str.ofString "q" ++ ⟨#[c]⟩) := ⟨by rw [Str.length_append]; show 1 ≤ 1 + 1; decide, by rw [Str.length_append]; show 1 + 1 ≤ 28; decide, fun d hd => by
  have e : (Str.ofString "q" ++ (⟨#[c]⟩ : Str)).cps.toList = [113, c] := by rw [Str.cps_append]; rfl
  rw [e] at hd
  have : d = 113 ∨ d = c := by simpa using hd
  omega⟩
section
variable {P : Program} {w : World} {K : PySem.W.Frag} {mg : Str → Option Value} {base : Heap}
/-! ### law -/
def spLaw (K : PySem.W.Frag) : Sp := fun vs H Q _ => ∃ (a : Addr) (ns : List Int), vs = [.ref a] ∧ SqL K H a (ns.map V.int) ∧ ns.length ≤ 63 ∧ ∀ H', Q (.bl true) H'
theorem scLaw : FnScope ["_law_script", "_law_row", "_law_letter", "_law_one", "_law_handed", "_law_line", "_law_due", "_law_found"] ["_law_script"] (defScope sLaw) := ⟨rfl, rfl, rfl, by decide +kernel, rfl, by decide +kernel, by decide +kernel⟩
theorem ok_law {CR : Addr} {f : Addr} {fd : FuncData} (F : Fun K "law" "law" sLaw f fd) (T : Txt mg) (F_drawn : Ok1 P w K mg base 5 "_law_drawn_row" ["_law_cells"] spDrawn) (F_lawat : Ok1 P w K mg base 3 "_law_at" ["_law_script", "_law_k"] (spLawAt K))
    (F_shown : Ok1 P w K mg base 11 "shown" ["row"] spShown) (F_lineof : Ok1 P w K mg base 5 "_law_line_of" ["_law_row"] spLineOf) (F_so : Ok1 P w K mg base 5 "_law_so" ["_law_found", "_law_due"] spSo)
    (F_read : OkR P w K mg base 7 "read" ["line"] (spRead CR)) (F_isrow : Ok1 P w K mg base 5 "_law_is_row" ["_law_found"] spIsRow) : FnOk P w K mg base CX0 13 f fd ["_law_script"] (spLaw K) := by
  refine F.ok scLaw (fun vs H Q E h => ?_) (fun cdv A outer s H vs Q E hr h => ?_)
  · obtain ⟨a, ns, rfl, _⟩ := h
    rfl
  · obtain ⟨a, ns, rfl, hS, hlen, k⟩ := h
    have nd := scLaw.nd
    have big := line_big
    refine ⟨_, (pss_cons (ps_set (i := 1) nd rfl (Or.inl rfl) (pe_fn F_drawn (hr.mono (by decide)) rfl (pa_cons (pe_slice sl_list (pv 0) po_none (po_some pe_int)) pa_nil)))
      (pss_cons (ps_set (i := 2) nd rfl (Or.inl rfl) (pe_ix ix_str pe_str (pe_op op_mod (pe_fn F_lawat (hr.mono (by decide)) rfl (pa_cons (pv 0) (pa_cons pe_int pa_nil))) pe_int) (fun _ _ => rfl)))
      (pss_cons (ps_for PassesOwn.never rfl (pi_list (pe_lst (pa_cons (pv 1) (pa_cons (pe_op op_cat (pv 1) (pe_lst (pa_cons (pe_tup (pa_cons (pv 2) (pa_cons (pe_tup (pa_cons (pe_op op_add_str pe_str (pv 2)) pa_nil)) pa_nil))) pa_nil))) (pa_cons (pe_lst pa_nil) pa_nil))))) (pg_name (i := 3) nd rfl (Or.inl rfl))
        (pss_cons (ps_set (i := 4) nd rfl (Or.inl rfl) (pe_callTy call_list_of rfl T.list bt_list (pa_cons (pv 3) pa_nil)))
        (pss_cons (ps_set (i := 5) nd rfl (Or.inl rfl) (pe_fn F_shown (hr.mono (by decide)) rfl (pa_cons (pv 4) pa_nil)))
        (pss_cons (ps_set (i := 6) nd rfl (Or.inl rfl) (pe_fn F_lineof (hr.mono (by decide)) rfl (pa_cons (pv 3) pa_nil)))
        (pss_cons (ps_if (PW.pt (pw_or (pt_not (pt_val (pe_fn F_so (hr.mono (by decide)) rfl (pa_cons (pv 4) (pa_cons (pv 3) pa_nil))))) (pw_or (pt_not (pt_val (pe_callB call_isi rfl T.isinstance bt_isinstance (pa_cons (pv 5) (pa_cons (pe_ty rfl T.str bt_str) pa_nil))))) (pw_or1 (pt_cmpR op_ne (pv 5) (pv 6) (nomark _))))))
          (pss_one (ps_ret pe_bl))
          pss_nil)
        (pss_cons (ps_set (i := 7) nd rfl (Or.inl rfl) (pe_fnR F_read passR0 (hr.mono (by decide)) rfl (pa_cons (pv 6) pa_nil)))
        (pss_one (ps_if (PW.pt (pw_or (pt_not (pt_val (pe_fn F_isrow (hr.mono (by decide)) rfl (pa_cons (pv 7) pa_nil)))) (pw_or1 (pt_cmpR (op_neRow hr) (pv 7) (pv 3) (nomark _)))))
          (pss_one (ps_ret pe_bl))
          pss_nil))))))))
      (pss_one (ps_ret pe_bl))))), ?_⟩
    refine ⟨_, rfl, _, rfl, a, _, rfl, hS, fun c hc => ?_⟩
    obtain ⟨cells, ec, hcl⟩ : ∃ cells : List Int, cutV (ns.map V.int) none (some 98) = cells.map V.int ∧ cells.length ≤ 63 := by
      refine ⟨ns.take 98, ?_, by rw [List.length_take]; omega⟩
      rw [List.map_take]
      exact cut_to _ 98
    rw [ec]
    refine ⟨_, c, cells, rfl, Same.refl _, upd_same, by omega, fun G2 H2 r ts x2 rr hk hw => ?_⟩
    have s2 : Same H H2 := (same_upd hc).trans x2.h
    have r2 : Rep H2 r (rowD ts) := rr.mono x2.gh
    have hk63 : knotsOf ts ≤ 63 := by omega
    clear x2 rr hk
    -- the letter
    refine ⟨_, rfl, a, ns, 0, rfl, s2.seq hS, fun n => ?_⟩
    obtain ⟨cc, hat, hc1, hc2⟩ := alphabet_at n
    refine ⟨_, _, rfl, rfl, (by show (0 : Int) < 26; decide), _, _, cc, rfl, rfl, (by decide +kernel), hat, ?_⟩
    -- the three rows
    obtain ⟨ra, rvs, rfl, hra, rts⟩ := r2.row
    have hrl := rts.length
    rw [List.length_map] at hrl
    have hrk := length_le_knots ts
    refine ⟨_, rfl, _, rfl, _, rfl, _, rfl, _, _, rfl, rfl, (by show 1 + 1 ≤ sizeLine; decide), (by show 1 ≤ sizeLine; decide), fun t1 h1 => ⟨by show 2 ≤ sizeLine; decide, fun t2 h2 => ⟨by show 1 ≤ sizeLine; decide, fun l1 hl1 => ?_⟩⟩⟩
    have g1 := same_upd (o := (.tup [V.str (Str.ofString "q" ++ ⟨#[cc]⟩)])) h1
    have g2 := g1.trans (same_upd (o := (.tup [V.str ⟨#[cc]⟩, V.ref t1])) h2)
    have g3 := g2.trans (same_upd (o := (.lst [V.ref t2])) hl1)
    refine ⟨ra, l1, _, _, rfl, rfl, g3 _ _ hra, upd_same, by simp only [List.length_singleton]; omega, fun l3 hl3 => ?_⟩
    have g4 := g3.trans (same_upd (o := (.lst (rvs ++ [V.ref t2]))) hl3)
    have q4 := (same_upd (o := (.lst [V.ref t2])) hl1).trans (same_upd (o := (.lst (rvs ++ [V.ref t2]))) hl3)
    have r4 : Rep (upd (upd (upd (upd H2 t1 (.tup [V.str (Str.ofString "q" ++ ⟨#[cc]⟩)])) t2 (.tup [V.str ⟨#[cc]⟩, V.ref t1])) l1 (.lst [V.ref t2])) l3 (.lst (rvs ++ [V.ref t2]))) (V.ref l3) (rowD (ts ++ [Tr.node ⟨#[cc]⟩ [Tr.node (Str.ofString "q" ++ ⟨#[cc]⟩) []]])) := .lst upd_same (by
      rw [List.map_append]
      exact (rts.mono g4).append (.cons (.tup (q4 _ _ upd_same) (.cons (.str _) (.cons (.tup (q4 _ _ (same_upd h2 _ _ upd_same)) (.cons (.str _) .nil)) .nil))) .nil))
    refine ⟨Nat.zero_le _, fun l0 hl0 => ⟨by show 3 ≤ sizeLine; decide, fun e4 he4 => ?_⟩⟩
    have g5 := same_upd (o := .lst []) hl0
    have g6 := same_upd (o := .lst [V.ref ra, V.ref l3, V.ref l0]) he4
    have items : ∀ y ∈ [V.ref ra, V.ref l3, V.ref l0], ∃ us, Rep (upd (upd (upd (upd (upd (upd H2 t1 (.tup [V.str (Str.ofString "q" ++ ⟨#[cc]⟩)])) t2 (.tup [V.str ⟨#[cc]⟩, V.ref t1])) l1 (.lst [V.ref t2])) l3 (.lst (rvs ++ [V.ref t2]))) l0 (.lst [])) e4 (.lst [V.ref ra, V.ref l3, V.ref l0])) y (rowD us) ∧ knotsOf us ≤ 65 ∧ TT.wordsOf us := fun y hy => by
      rcases List.mem_cons.mp hy with rfl | hy
      · exact ⟨ts, ((r2.mono g4).mono g5).mono g6, by omega, hw⟩
      rcases List.mem_cons.mp hy with rfl | hy
      · refine ⟨_, (r4.mono g5).mono g6, ?_, ?_⟩
        · rw [knotsOf_append]
          show knotsOf ts + (1 + (1 + 0 + 0) + 0) ≤ 65
          omega
        · refine wordsOf_iff.mpr fun t ht => ?_
          rcases List.mem_append.mp ht with ht | ht
          · exact wordsOf_iff.mp hw t ht
          · rw [List.mem_singleton.mp ht]
            exact ⟨word_letter hc1 hc2, ⟨word_q hc1 hc2, trivial⟩, trivial⟩
      · rw [List.mem_singleton.mp hy]
        exact ⟨[], .lst (g6 _ _ upd_same) .nil, Nat.zero_le _, trivial⟩
    have hE : (upd (upd (upd (upd (upd (upd H2 t1 (.tup [V.str (Str.ofString "q" ++ ⟨#[cc]⟩)])) t2 (.tup [V.str ⟨#[cc]⟩, V.ref t1])) l1 (.lst [V.ref t2])) l3 (.lst (rvs ++ [V.ref t2]))) l0 (.lst [])) e4 (.lst [V.ref ra, V.ref l3, V.ref l0])) e4 = some (.lst [V.ref ra, V.ref l3, V.ref l0]) := upd_same
    generalize (upd (upd (upd (upd (upd (upd H2 t1 (.tup [V.str (Str.ofString "q" ++ ⟨#[cc]⟩)])) t2 (.tup [V.str ⟨#[cc]⟩, V.ref t1])) l1 (.lst [V.ref t2])) l3 (.lst (rvs ++ [V.ref t2]))) l0 (.lst [])) e4 (.lst [V.ref ra, V.ref l3, V.ref l0])) = H5 at *
    clear g1 g2 g3 g4 g5 g6 q4 r4 hl0 he4 hl3 hl1 h2 h1
    refine ⟨e4, rfl, ⟨_, SqL.of hE⟩, for_list (K := K) (a := e4) (xs := [V.ref ra, V.ref l3, V.ref l0])
      (fun i σ H' => ∃ z3 z4 z5 z6 z7, σ = [some (.ref a), some (.ref ra), some (.str ⟨#[cc]⟩), z3, z4, z5, z6, z7] ∧ Same H5 H') ⟨_, _, _, _, _, rfl, Same.refl _⟩
      (fun i σ H' _ ⟨_, _, _, _, _, _, x⟩ => SqL.of (x _ _ hE)) ?_ ?_⟩
    · rintro i y σ H6 hi ⟨z3, z4, z5, z6, z7, rfl, s6⟩
      obtain ⟨us, ru, hku, hwu⟩ := items y (List.mem_of_getElem? hi)
      have ru6 := ru.mono s6
      obtain ⟨ua, uvs, rfl, hua, rus⟩ := ru6.row
      refine ⟨_, rfl, ua, uvs, rfl, .inl (SqL.of hua), fun lh hlh => ?_⟩
      have t7 : Same H6 (upd H6 lh (.lst uvs)) := same_upd hlh
      have rh7 : Rep (upd H6 lh (.lst uvs)) (.ref lh) (rowD us) := .lst upd_same (rus.mono t7)
      have ru7 := ru6.mono t7
      have s7 := s6.trans t7
      generalize upd H6 lh (.lst uvs) = H7 at *
      have hg := words_goods us hwu
      have hle := txts_le false us hwu
      refine ⟨_, rfl, H7, _, us, rfl, Same.refl _, rh7, hku, hwu, fun H8 s8 => ?_⟩
      refine ⟨_, rfl, H8, _, us, rfl, Same.refl _, ru7.mono s8, hg, by omega, by omega, fun H9 s9 => ?_⟩
      have s89 := s8.trans s9
      refine ⟨_, rfl, _, rfl, H9, _, _, rowD us, rfl, Same.refl _, rh7.mono s89, ru7.mono s89, by rw [rowD_size]; omega, fun H10 s10 => ⟨_, rfl, iteF ?_⟩⟩
      have ru10 := (ru7.mono s89).mono s10
      have s10' := (s7.trans s89).trans s10
      clear s8 s9 s89 s10 ru7 rh7 s7 t7 ru6 hua rus ru s6
      refine ⟨_, rfl, _, _, _, _, rfl, .str _, kit_str_str K, _, rfl, iteF ?_⟩
      refine ⟨_, rfl, _, rfl, rfl, _, rfl, ?_⟩
      rw [decide_eq_true rfl]
      refine iteF ?_
      have hne : isLine (txts false us) := by
        by_cases e : us = []
        · subst e; exact .inl rfl
        · exact .inr (chk_line hg e)
      have hz : (⟨(txts false us).toArray⟩ : Str).length = (txts false us).length := by simp [Str.length]
      refine ⟨_, rfl, _, rfl, (row_sm hwu).1, by omega, fun _ G11 H11 r row x11 rr hgr ht => ?_, fun hn => absurd hne hn⟩
      have er : row = us := line_one hgr hg ht
      subst er
      have rr11 := rr.mono x11.gh
      have s11 := x11.h
      refine ⟨_, rfl, H11, r, row, rfl, Same.refl _, rr11, by omega, fun H12 s12 => ⟨_, rfl, iteF ?_⟩⟩
      refine ⟨_, rfl, _, rfl, H12, row, row, Same.refl _, rr11.mono s12, (ru10.mono s11).mono s12, by omega, fun _ => ⟨_, rfl, iteF ?_⟩, fun z => absurd rfl z⟩
      exact ⟨_, _, _, _, _, rfl, (s10'.trans s11).trans s12⟩
    · rintro σ H6 ⟨z3, z4, z5, z6, z7, rfl, s6⟩
      exact k _
end
end K10
namespace K10
open PySem L2 TT
theorem all_mk {l : PySem.W.OpenLaw} {w : World} {K : PySem.W.Frag} {h : Heap} {mg : Str → Option Value} {fa f1 f2 f3 f4 f5 f6 f7 f8 f9 f10 f11 f12 f13 f14 f15 f16 f17 f18 f19 f20 f21 : Addr} (X : K.In h) (G : h.Ns mainGlobals mg) (hfa : mg "law" = some (.ref fa))
    {od1 an1 od2 an2 od3 an3 od4 an4 od5 an5 od6 an6 od7 an7 od8 an8 od9 an9 od10 an10 od11 an11 od12 an12 od13 an13 od14 an14 od15 an15 od16 an16 od17 an17 od18 an18 od19 an19 od20 an20 od21 an21 : Option Addr} {sl1 sl2 sl3 sl4 sl5 sl6 sl7 sl8 sl9 sl10 sl11 sl12 sl13 sl14 sl15 sl16 sl17 sl18 sl19 sl20 sl21 : Array (Option Value)} {oc1 kV1 dc1 pm1 cd1 ct1 oc2 kV2 dc2 pm2 cd2 ct2 oc3 kV3 dc3 pm3 cd3 ct3 oc4 kV4 dc4 pm4 cd4 ct4 oc5 kV5 dc5 pm5 cd5 ct5 oc6 kV6 dc6 pm6 cd6 ct6 oc7 kV7 dc7 pm7 cd7 ct7 oc8 kV8 dc8 pm8 cd8 ct8 oc9 kV9 dc9 pm9 cd9 ct9 oc10 kV10 dc10 pm10 cd10 ct10 oc11 kV11 dc11 pm11 cd11 ct11 oc12 kV12 dc12 pm12 cd12 ct12 oc13 kV13 dc13 pm13 cd13 ct13 oc14 kV14 dc14 pm14 cd14 ct14 oc15 kV15 dc15 pm15 cd15 ct15 oc16 kV16 dc16 pm16 cd16 ct16 oc17 kV17 dc17 pm17 cd17 ct17 oc18 kV18 dc18 pm18 cd18 ct18 oc19 kV19 dc19 pm19 cd19 ct19 oc20 kV20 dc20 pm20 cd20 ct20 oc21 kV21 dc21 pm21 cd21 ct21 : Value}
    (a1 : PySem.W.nsIn K mainGlobals "mark_of" = some (some (.ref f1))) (l1 : K.lookup f1 = some ⟨oc1, od1, .func (PySem.W.fnOf "mark_of" "mark_of" (defArgs sMark) (defBody sMark) (defScope sMark) .none kV1 dc1 pm1 an1 cd1 ct1), sl1⟩) (c1 : PySem.W.codeIn K cd1 "mark_of" = true) (k1 : PySem.W.keepIn K (.ref f1) = true)
    (a2 : PySem.W.nsIn K mainGlobals "trees_under" = some (some (.ref f2))) (l2 : K.lookup f2 = some ⟨oc2, od2, .func (PySem.W.fnOf "trees_under" "trees_under" (defArgs sTU) (defBody sTU) (defScope sTU) .none kV2 dc2 pm2 an2 cd2 ct2), sl2⟩) (c2 : PySem.W.codeIn K cd2 "trees_under" = true) (k2 : PySem.W.keepIn K (.ref f2) = true)
    (a3 : PySem.W.nsIn K mainGlobals "knot" = some (some (.ref f3))) (l3 : K.lookup f3 = some ⟨oc3, od3, .func (PySem.W.fnOf "knot" "knot" (defArgs sKnot) (defBody sKnot) (defScope sKnot) .none kV3 dc3 pm3 an3 cd3 ct3), sl3⟩) (c3 : PySem.W.codeIn K cd3 "knot" = true) (k3 : PySem.W.keepIn K (.ref f3) = true)
    (a4 : PySem.W.nsIn K mainGlobals "levels" = some (some (.ref f4))) (l4 : K.lookup f4 = some ⟨oc4, od4, .func (PySem.W.fnOf "levels" "levels" (defArgs sLevels) (defBody sLevels) (defScope sLevels) .none kV4 dc4 pm4 an4 cd4 ct4), sl4⟩) (c4 : PySem.W.codeIn K cd4 "levels" = true) (k4 : PySem.W.keepIn K (.ref f4) = true)
    (a5 : PySem.W.nsIn K mainGlobals "trees_at" = some (some (.ref f5))) (l5 : K.lookup f5 = some ⟨oc5, od5, .func (PySem.W.fnOf "trees_at" "trees_at" (defArgs sAt) (defBody sAt) (defScope sAt) .none kV5 dc5 pm5 an5 cd5 ct5), sl5⟩) (c5 : PySem.W.codeIn K cd5 "trees_at" = true) (k5 : PySem.W.keepIn K (.ref f5) = true)
    (a6 : PySem.W.nsIn K mainGlobals "mark_at" = some (some (.ref f6))) (l6 : K.lookup f6 = some ⟨oc6, od6, .func (PySem.W.fnOf "mark_at" "mark_at" (defArgs sMarkAt) (defBody sMarkAt) (defScope sMarkAt) .none kV6 dc6 pm6 an6 cd6 ct6), sl6⟩) (c6 : PySem.W.codeIn K cd6 "mark_at" = true) (k6 : PySem.W.keepIn K (.ref f6) = true)
    (a7 : PySem.W.nsIn K mainGlobals "paths" = some (some (.ref f7))) (l7 : K.lookup f7 = some ⟨oc7, od7, .func (PySem.W.fnOf "paths" "paths" (defArgs sPaths) (defBody sPaths) (defScope sPaths) .none kV7 dc7 pm7 an7 cd7 ct7), sl7⟩) (c7 : PySem.W.codeIn K cd7 "paths" = true) (k7 : PySem.W.keepIn K (.ref f7) = true)
    (a8 : PySem.W.nsIn K mainGlobals "closing" = some (some (.ref f8))) (l8 : K.lookup f8 = some ⟨oc8, od8, .func (PySem.W.fnOf "closing" "closing" (defArgs sClosing) (defBody sClosing) (defScope sClosing) .none kV8 dc8 pm8 an8 cd8 ct8), sl8⟩) (c8 : PySem.W.codeIn K cd8 "closing" = true) (k8 : PySem.W.keepIn K (.ref f8) = true)
    (a9 : PySem.W.nsIn K mainGlobals "joint" = some (some (.ref f9))) (l9 : K.lookup f9 = some ⟨oc9, od9, .func (PySem.W.fnOf "joint" "joint" (defArgs sJoint) (defBody sJoint) (defScope sJoint) .none kV9 dc9 pm9 an9 cd9 ct9), sl9⟩) (c9 : PySem.W.codeIn K cd9 "joint" = true) (k9 : PySem.W.keepIn K (.ref f9) = true)
    (a10 : PySem.W.nsIn K mainGlobals "shown" = some (some (.ref f10))) (l10 : K.lookup f10 = some ⟨oc10, od10, .func (PySem.W.fnOf "shown" "shown" (defArgs sShown) (defBody sShown) (defScope sShown) .none kV10 dc10 pm10 an10 cd10 ct10), sl10⟩) (c10 : PySem.W.codeIn K cd10 "shown" = true) (k10 : PySem.W.keepIn K (.ref f10) = true)
    (a11 : PySem.W.nsIn K mainGlobals "neighbours_fit" = some (some (.ref f11))) (l11 : K.lookup f11 = some ⟨oc11, od11, .func (PySem.W.fnOf "neighbours_fit" "neighbours_fit" (defArgs sNbr) (defBody sNbr) (defScope sNbr) .none kV11 dc11 pm11 an11 cd11 ct11), sl11⟩) (c11 : PySem.W.codeIn K cd11 "neighbours_fit" = true) (k11 : PySem.W.keepIn K (.ref f11) = true)
    (a12 : PySem.W.nsIn K mainGlobals "brackets_fit" = some (some (.ref f12))) (l12 : K.lookup f12 = some ⟨oc12, od12, .func (PySem.W.fnOf "brackets_fit" "brackets_fit" (defArgs sBrk) (defBody sBrk) (defScope sBrk) .none kV12 dc12 pm12 an12 cd12 ct12), sl12⟩) (c12 : PySem.W.codeIn K cd12 "brackets_fit" = true) (k12 : PySem.W.keepIn K (.ref f12) = true)
    (a13 : PySem.W.nsIn K mainGlobals "row_of" = some (some (.ref f13))) (l13 : K.lookup f13 = some ⟨oc13, od13, .func (PySem.W.fnOf "row_of" "row_of" (defArgs sRowOf) (defBody sRowOf) (defScope sRowOf) .none kV13 dc13 pm13 an13 cd13 ct13), sl13⟩) (c13 : PySem.W.codeIn K cd13 "row_of" = true) (k13 : PySem.W.keepIn K (.ref f13) = true)
    (a14 : PySem.W.nsIn K mainGlobals "read" = some (some (.ref f14))) (l14 : K.lookup f14 = some ⟨oc14, od14, .func (PySem.W.fnOf "read" "read" (defArgs sRead) (defBody sRead) (defScope sRead) .none kV14 dc14 pm14 an14 cd14 ct14), sl14⟩) (c14 : PySem.W.codeIn K cd14 "read" = true) (k14 : PySem.W.keepIn K (.ref f14) = true)
    (a15 : PySem.W.nsIn K mainGlobals "_law_at" = some (some (.ref f15))) (l15 : K.lookup f15 = some ⟨oc15, od15, .func (PySem.W.fnOf "_law_at" "_law_at" (defArgs sLawAt) (defBody sLawAt) (defScope sLawAt) .none kV15 dc15 pm15 an15 cd15 ct15), sl15⟩) (c15 : PySem.W.codeIn K cd15 "_law_at" = true) (k15 : PySem.W.keepIn K (.ref f15) = true)
    (a16 : PySem.W.nsIn K mainGlobals "_law_any_word" = some (some (.ref f16))) (l16 : K.lookup f16 = some ⟨oc16, od16, .func (PySem.W.fnOf "_law_any_word" "_law_any_word" (defArgs sWord) (defBody sWord) (defScope sWord) .none kV16 dc16 pm16 an16 cd16 ct16), sl16⟩) (c16 : PySem.W.codeIn K cd16 "_law_any_word" = true) (k16 : PySem.W.keepIn K (.ref f16) = true)
    (a17 : PySem.W.nsIn K mainGlobals "_law_drawn_row" = some (some (.ref f17))) (l17 : K.lookup f17 = some ⟨oc17, od17, .func (PySem.W.fnOf "_law_drawn_row" "_law_drawn_row" (defArgs sDrawn) (defBody sDrawn) (defScope sDrawn) .none kV17 dc17 pm17 an17 cd17 ct17), sl17⟩) (c17 : PySem.W.codeIn K cd17 "_law_drawn_row" = true) (k17 : PySem.W.keepIn K (.ref f17) = true)
    (a18 : PySem.W.nsIn K mainGlobals "_law_is_row" = some (some (.ref f18))) (l18 : K.lookup f18 = some ⟨oc18, od18, .func (PySem.W.fnOf "_law_is_row" "_law_is_row" (defArgs sIsRow) (defBody sIsRow) (defScope sIsRow) .none kV18 dc18 pm18 an18 cd18 ct18), sl18⟩) (c18 : PySem.W.codeIn K cd18 "_law_is_row" = true) (k18 : PySem.W.keepIn K (.ref f18) = true)
    (a19 : PySem.W.nsIn K mainGlobals "_law_line_of" = some (some (.ref f19))) (l19 : K.lookup f19 = some ⟨oc19, od19, .func (PySem.W.fnOf "_law_line_of" "_law_line_of" (defArgs sLineOf) (defBody sLineOf) (defScope sLineOf) .none kV19 dc19 pm19 an19 cd19 ct19), sl19⟩) (c19 : PySem.W.codeIn K cd19 "_law_line_of" = true) (k19 : PySem.W.keepIn K (.ref f19) = true)
    (a20 : PySem.W.nsIn K mainGlobals "_law_so" = some (some (.ref f20))) (l20 : K.lookup f20 = some ⟨oc20, od20, .func (PySem.W.fnOf "_law_so" "_law_so" (defArgs sSo) (defBody sSo) (defScope sSo) .none kV20 dc20 pm20 an20 cd20 ct20), sl20⟩) (c20 : PySem.W.codeIn K cd20 "_law_so" = true) (k20 : PySem.W.keepIn K (.ref f20) = true)
    (a21 : PySem.W.nsIn K mainGlobals "law" = some (some (.ref f21))) (l21 : K.lookup f21 = some ⟨oc21, od21, .func (PySem.W.fnOf "law" "law" (defArgs sLaw) (defBody sLaw) (defScope sLaw) .none kV21 dc21 pm21 an21 cd21 ct21), sl21⟩) (c21 : PySem.W.codeIn K cd21 "law" = true) (k21 : PySem.W.keepIn K (.ref f21) = true)
    {CR NB : Addr} {tL u1 u2 u3 u4 u5 u6 u7 u8 : Tok} {odN : Option Addr} {nN : Nat} {slN : Array (Option Value)} (xR : PySem.W.nsIn K mainGlobals "NoRow" = some (some (.ref CR))) (y1 : PySem.W.excIn K CR veMro "ValueError.__new__" = true) (cL : PySem.W.nsIn K mainGlobals "LETTERS" = some (some (.str (Str.ofString "abcdefghijklmnopqrstuvwxyz") tL))) (cN : PySem.W.nsIn K mainGlobals "NEIGHBOURS" = some (some (.ref NB))) (cT : K.lookup NB = some ⟨.type "tuple", odN, .seq #[.str (Str.ofString "aa") u1, .str (Str.ofString "a(") u2, .str (Str.ofString "a)") u3, .str (Str.ofString "a ") u4, .str (Str.ofString "(a") u5, .str (Str.ofString "))") u6, .str (Str.ofString ") ") u7, .str (Str.ofString " a") u8] nN, slN⟩)
    (z_list : PySem.W.nsIn K mainGlobals "list" = some none) (z_tuple : PySem.W.nsIn K mainGlobals "tuple" = some none) (z_len : PySem.W.nsIn K mainGlobals "len" = some none) (z_range : PySem.W.nsIn K mainGlobals "range" = some none) (z_min : PySem.W.nsIn K mainGlobals "min" = some none) (z_max : PySem.W.nsIn K mainGlobals "max" = some none) (z_abs : PySem.W.nsIn K mainGlobals "abs" = some none) (z_isinstance : PySem.W.nsIn K mainGlobals "isinstance" = some none) (z_str : PySem.W.nsIn K mainGlobals "str" = some none) (z_int : PySem.W.nsIn K mainGlobals "int" = some none) (z_bool : PySem.W.nsIn K mainGlobals "bool" = some none) (z_reversed : PySem.W.nsIn K mainGlobals "reversed" = some none) (z_enumerate : PySem.W.nsIn K mainGlobals "enumerate" = some none) (z_sorted : PySem.W.nsIn K mainGlobals "sorted" = some none) :
    ∃ fd : FuncData, (∀ (s : Shared) (v : Value), BindsTo s fd ⟨[v], []⟩ [("_law_script", v)]) ∧ ∀ base : Heap, K.In base → base.Ns mainGlobals mg → FnOk l.prog w K mg base CX0 13 fa fd ["_law_script"] (spLaw K) := by
  have e := hfa.symm.trans (PySem.W.mg_of X G a21)
  cases e
  have T : Txt mg := ⟨PySem.W.mg_none_of X G z_list, PySem.W.mg_none_of X G z_tuple, PySem.W.mg_none_of X G z_len, PySem.W.mg_none_of X G z_range, PySem.W.mg_none_of X G z_min, PySem.W.mg_none_of X G z_max, PySem.W.mg_none_of X G z_abs, PySem.W.mg_none_of X G z_isinstance, PySem.W.mg_none_of X G z_str, PySem.W.mg_none_of X G z_int, PySem.W.mg_none_of X G z_bool, PySem.W.mg_none_of X G z_reversed, PySem.W.mg_none_of X G z_enumerate, PySem.W.mg_none_of X G z_sorted⟩

  have C : Cst K mg tL NB := ⟨PySem.W.mg_of X G cL, PySem.W.mg_of X G cN, fun H => .inr ⟨_, _, _, cT, rfl, rfl, (by show 8 ≤ sizeLine; decide), .cons ⟨u1, rfl⟩ (.cons ⟨u2, rfl⟩ (.cons ⟨u3, rfl⟩ (.cons ⟨u4, rfl⟩ (.cons ⟨u5, rfl⟩ (.cons ⟨u6, rfl⟩ (.cons ⟨u7, rfl⟩ (.cons ⟨u8, rfl⟩ .nil)))))))⟩⟩
  have F1 := fun_mk (st := sMark) l1 c1 k1
  have F2 := fun_mk (st := sTU) l2 c2 k2
  have F3 := fun_mk (st := sKnot) l3 c3 k3
  have F4 := fun_mk (st := sLevels) l4 c4 k4
  have F5 := fun_mk (st := sAt) l5 c5 k5
  have F6 := fun_mk (st := sMarkAt) l6 c6 k6
  have F7 := fun_mk (st := sPaths) l7 c7 k7
  have F8 := fun_mk (st := sClosing) l8 c8 k8
  have F9 := fun_mk (st := sJoint) l9 c9 k9
  have F10 := fun_mk (st := sShown) l10 c10 k10
  have F11 := fun_mk (st := sNbr) l11 c11 k11
  have F12 := fun_mk (st := sBrk) l12 c12 k12
  have F13 := fun_mk (st := sRowOf) l13 c13 k13
  have F14 := fun_mk (st := sRead) l14 c14 k14
  have F15 := fun_mk (st := sLawAt) l15 c15 k15
  have F16 := fun_mk (st := sWord) l16 c16 k16
  have F17 := fun_mk (st := sDrawn) l17 c17 k17
  have F18 := fun_mk (st := sIsRow) l18 c18 k18
  have F19 := fun_mk (st := sLineOf) l19 c19 k19
  have F20 := fun_mk (st := sSo) l20 c20 k20
  have F21 := fun_mk (st := sLaw) l21 c21 k21
  have b1 := F1.binds (ps := ["tree"]) fun _ _ _ _ _ _ us hl => match us, hl with | [_], _ => rfl
  have b2 := F2.binds (ps := ["tree"]) fun _ _ _ _ _ _ us hl => match us, hl with | [_], _ => rfl
  have b3 := F3.binds (ps := ["mark", "trees"]) fun _ _ _ _ _ _ us hl => match us, hl with | [_, _], _ => rfl
  have b4 := F4.binds (ps := ["row", "path"]) fun _ _ _ _ _ _ us hl => match us, hl with | [_, _], _ => rfl
  have b5 := F5.binds (ps := ["row", "path"]) fun _ _ _ _ _ _ us hl => match us, hl with | [_, _], _ => rfl
  have b6 := F6.binds (ps := ["row", "path"]) fun _ _ _ _ _ _ us hl => match us, hl with | [_, _], _ => rfl
  have b7 := F7.binds (ps := ["row"]) fun _ _ _ _ _ _ us hl => match us, hl with | [_], _ => rfl
  have b8 := F8.binds (ps := ["depth", "next_depth"]) fun _ _ _ _ _ _ us hl => match us, hl with | [_, _], _ => rfl
  have b9 := F9.binds (ps := ["depth", "next_depth"]) fun _ _ _ _ _ _ us hl => match us, hl with | [_, _], _ => rfl
  have b10 := F10.binds (ps := ["row"]) fun _ _ _ _ _ _ us hl => match us, hl with | [_], _ => rfl
  have b11 := F11.binds (ps := ["line"]) fun _ _ _ _ _ _ us hl => match us, hl with | [_], _ => rfl
  have b12 := F12.binds (ps := ["line"]) fun _ _ _ _ _ _ us hl => match us, hl with | [_], _ => rfl
  have b13 := F13.binds (ps := ["line"]) fun _ _ _ _ _ _ us hl => match us, hl with | [_], _ => rfl
  have b14 := F14.binds (ps := ["line"]) fun _ _ _ _ _ _ us hl => match us, hl with | [_], _ => rfl
  have b15 := F15.binds (ps := ["_law_script", "_law_k"]) fun _ _ _ _ _ _ us hl => match us, hl with | [_, _], _ => rfl
  have b16 := F16.binds (ps := ["_law_cell"]) fun _ _ _ _ _ _ us hl => match us, hl with | [_], _ => rfl
  have b17 := F17.binds (ps := ["_law_cells"]) fun _ _ _ _ _ _ us hl => match us, hl with | [_], _ => rfl
  have b18 := F18.binds (ps := ["_law_found"]) fun _ _ _ _ _ _ us hl => match us, hl with | [_], _ => rfl
  have b19 := F19.binds (ps := ["_law_row"]) fun _ _ _ _ _ _ us hl => match us, hl with | [_], _ => rfl
  have b20 := F20.binds (ps := ["_law_found", "_law_due"]) fun _ _ _ _ _ _ us hl => match us, hl with | [_, _], _ => rfl
  refine ⟨PySem.W.fnOf "law" "law" (defArgs sLaw) (defBody sLaw) (defScope sLaw) .none kV21 dc21 pm21 an21 cd21 ct21, fun s v => .of_eq rfl, fun base _ _ => ?_⟩
  have O_mark_of : Ok1 l.prog w K mg base 3 "mark_of" ["tree"] spMark := ⟨_, _, ok_mark F1, PySem.W.mg_of X G a1, k1, b1⟩
  have O_trees_under : Ok1 l.prog w K mg base 3 "trees_under" ["tree"] spTU := ⟨_, _, ok_tu F2 T, PySem.W.mg_of X G a2, k2, b2⟩
  have O_knot : Ok1 l.prog w K mg base 3 "knot" ["mark", "trees"] spKnot := ⟨_, _, ok_knot F3 T, PySem.W.mg_of X G a3, k3, b3⟩
  have O_levels : Ok1 l.prog w K mg base 5 "levels" ["row", "path"] spLevels := ⟨_, _, ok_levels F4 T O_trees_under, PySem.W.mg_of X G a4, k4, b4⟩
  have O_trees_at : Ok1 l.prog w K mg base 7 "trees_at" ["row", "path"] spAt := ⟨_, _, ok_at F5 O_levels, PySem.W.mg_of X G a5, k5, b5⟩
  have O_mark_at : Ok1 l.prog w K mg base 9 "mark_at" ["row", "path"] spMarkAt := ⟨_, _, ok_markat F6 O_mark_of O_trees_at, PySem.W.mg_of X G a6, k6, b6⟩
  have O_paths : Ok1 l.prog w K mg base 7 "paths" ["row"] spPaths := ⟨_, _, ok_paths F7 T O_trees_under, PySem.W.mg_of X G a7, k7, b7⟩
  have O_closing : Ok1 l.prog w K mg base 3 "closing" ["depth", "next_depth"] spClosing := ⟨_, _, ok_closing F8 T, PySem.W.mg_of X G a8, k8, b8⟩
  have O_joint : Ok1 l.prog w K mg base 5 "joint" ["depth", "next_depth"] spJoint := ⟨_, _, ok_joint F9 O_closing, PySem.W.mg_of X G a9, k9, b9⟩
  have O_shown : Ok1 l.prog w K mg base 11 "shown" ["row"] spShown := ⟨_, _, ok_shown F10 T O_paths O_joint O_mark_at O_closing, PySem.W.mg_of X G a10, k10, b10⟩
  have O_neighbours_fit : Ok1 l.prog w K mg base 3 "neighbours_fit" ["line"] spNbr := ⟨_, _, ok_nbr F11 C, PySem.W.mg_of X G a11, k11, b11⟩
  have O_brackets_fit : Ok1 l.prog w K mg base 3 "brackets_fit" ["line"] spBrk := ⟨_, _, ok_brk F12, PySem.W.mg_of X G a12, k12, b12⟩
  have O_row_of : TX.OkT l.prog w K mg base 5 "row_of" ["line"] spRowOf := ⟨_, _, ok_rowof F13 T O_mark_of O_knot, PySem.W.mg_of X G a13, k13, b13⟩
  have O_read : OkR l.prog w K mg base 7 "read" ["line"] (spRead CR) := ⟨_, _, ok_read F14 y1 (PySem.W.mg_of X G xR) O_neighbours_fit O_brackets_fit O_row_of, PySem.W.mg_of X G a14, k14, b14⟩
  have O__law_at : Ok1 l.prog w K mg base 3 "_law_at" ["_law_script", "_law_k"] (spLawAt K) := ⟨_, _, ok_lawat F15 T, PySem.W.mg_of X G a15, k15, b15⟩
  have O__law_any_word : Ok1 l.prog w K mg base 3 "_law_any_word" ["_law_cell"] spWord := ⟨_, _, ok_word F16 T, PySem.W.mg_of X G a16, k16, b16⟩
  have O__law_drawn_row : Ok1 l.prog w K mg base 5 "_law_drawn_row" ["_law_cells"] spDrawn := ⟨_, _, ok_drawn F17 T O__law_any_word, PySem.W.mg_of X G a17, k17, b17⟩
  have O__law_is_row : Ok1 l.prog w K mg base 5 "_law_is_row" ["_law_found"] spIsRow := ⟨_, _, ok_isrow F18 T, PySem.W.mg_of X G a18, k18, b18⟩
  have O__law_line_of : Ok1 l.prog w K mg base 5 "_law_line_of" ["_law_row"] spLineOf := ⟨_, _, ok_lineof F19 T, PySem.W.mg_of X G a19, k19, b19⟩
  have O__law_so : Ok1 l.prog w K mg base 5 "_law_so" ["_law_found", "_law_due"] spSo := ⟨_, _, ok_so F20 T, PySem.W.mg_of X G a20, k20, b20⟩
  exact ok_law F21 T O__law_drawn_row O__law_at O_shown O__law_line_of O__law_so O_read O__law_is_row
theorem walk {l : PySem.W.OpenLaw} {q : Program} {loose : List Str} {XP : (Str → Option Value) → Heap → Prop} {YP : World → Heap → Prop} {d : DefRec} {K : Params → PySem.W.Frag} (hn : l.most = some 63) (hdf : d.params.defaults = [])
    (hY : ∀ (w : World) (h : Heap), YP w h → (K w.params).In h)
    (F : ∀ (w : World) (mg : Str → Option Value) (fa : Addr) (h : Heap), (K w.params).In h → h.Ns mainGlobals mg → mg d.name = some (.ref fa) →
      ∃ fd : FuncData, (∀ (s : Shared) (u : Value), BindsTo s fd ⟨[u], []⟩ [("_law_script", u)]) ∧ ∀ base : Heap, (K w.params).In base → base.Ns mainGlobals mg → FnOk l.prog w (K w.params) mg base CX0 13 fa fd ["_law_script"] (spLaw (K w.params))) :
    PySem.W.WalkO q loose XP YP l.row.toRowW d [] (fun f vs => PySem.call f vs) :=
  L2.walk_of (n := 63) (k := 13) (x := "_law_script") (CX := fun _ => CX0) (sp := fun w => spLaw (K w.params)) hn (by decide) hdf ⟨rfl, by decide, by decide, rfl⟩ hY F (fun _ _ a ns hl _ hS => ⟨a, ns, rfl, hS, hl, fun _ => rfl⟩) fun _ _ _ _ _ z => z
end K10
open PySem PySem.W PyProof.Rows
set_option maxRecDepth 100000 in
set_option maxHeartbeats 0 in
theorem PySem.Challenge.cw_treetrim_k10_whole_written_and_read_holds : PySem.Challenge.rw_treetrim_k10_whole_written_and_read.Holds := by
  w_on; o_law; k_head; (case hw => w_witness2)
  k_fill
  refine K10.walk (l := PySem.Challenge.rw_treetrim_k10_whole_written_and_read) rfl rfl (fun w h Y => PySem.W.kIn_of Y) ?F
  case F =>
    intro w mg fa h KX G hmg
    refine' K10.all_mk KX G hmg ?a1 ?l1 ?c1 ?k1 ?a2 ?l2 ?c2 ?k2 ?a3 ?l3 ?c3 ?k3 ?a4 ?l4 ?c4 ?k4 ?a5 ?l5 ?c5 ?k5 ?a6 ?l6 ?c6 ?k6 ?a7 ?l7 ?c7 ?k7 ?a8 ?l8 ?c8 ?k8 ?a9 ?l9 ?c9 ?k9 ?a10 ?l10 ?c10 ?k10 ?a11 ?l11 ?c11 ?k11 ?a12 ?l12 ?c12 ?k12 ?a13 ?l13 ?c13 ?k13 ?a14 ?l14 ?c14 ?k14 ?a15 ?l15 ?c15 ?k15 ?a16 ?l16 ?c16 ?k16 ?a17 ?l17 ?c17 ?k17 ?a18 ?l18 ?c18 ?k18 ?a19 ?l19 ?c19 ?k19 ?a20 ?l20 ?c20 ?k20 ?a21 ?l21 ?c21 ?k21 ?xR ?y1 ?cL ?cN ?cT ?z_list ?z_tuple ?z_len ?z_range ?z_min ?z_max ?z_abs ?z_isinstance ?z_str ?z_int ?z_bool ?z_reversed ?z_enumerate ?z_sorted
    (case a1 => k_is)
    (case l1 => k_is)
    (case c1 => k_is)
    (case k1 => k_is)
    (case a2 => k_is)
    (case l2 => k_is)
    (case c2 => k_is)
    (case k2 => k_is)
    (case a3 => k_is)
    (case l3 => k_is)
    (case c3 => k_is)
    (case k3 => k_is)
    (case a4 => k_is)
    (case l4 => k_is)
    (case c4 => k_is)
    (case k4 => k_is)
    (case a5 => k_is)
    (case l5 => k_is)
    (case c5 => k_is)
    (case k5 => k_is)
    (case a6 => k_is)
    (case l6 => k_is)
    (case c6 => k_is)
    (case k6 => k_is)
    (case a7 => k_is)
    (case l7 => k_is)
    (case c7 => k_is)
    (case k7 => k_is)
    (case a8 => k_is)
    (case l8 => k_is)
    (case c8 => k_is)
    (case k8 => k_is)
    (case a9 => k_is)
    (case l9 => k_is)
    (case c9 => k_is)
    (case k9 => k_is)
    (case a10 => k_is)
    (case l10 => k_is)
    (case c10 => k_is)
    (case k10 => k_is)
    (case a11 => k_is)
    (case l11 => k_is)
    (case c11 => k_is)
    (case k11 => k_is)
    (case a12 => k_is)
    (case l12 => k_is)
    (case c12 => k_is)
    (case k12 => k_is)
    (case a13 => k_is)
    (case l13 => k_is)
    (case c13 => k_is)
    (case k13 => k_is)
    (case a14 => k_is)
    (case l14 => k_is)
    (case c14 => k_is)
    (case k14 => k_is)
    (case a15 => k_is)
    (case l15 => k_is)
    (case c15 => k_is)
    (case k15 => k_is)
    (case a16 => k_is)
    (case l16 => k_is)
    (case c16 => k_is)
    (case k16 => k_is)
    (case a17 => k_is)
    (case l17 => k_is)
    (case c17 => k_is)
    (case k17 => k_is)
    (case a18 => k_is)
    (case l18 => k_is)
    (case c18 => k_is)
    (case k18 => k_is)
    (case a19 => k_is)
    (case l19 => k_is)
    (case c19 => k_is)
    (case k19 => k_is)
    (case a20 => k_is)
    (case l20 => k_is)
    (case c20 => k_is)
    (case k20 => k_is)
    (case a21 => k_is)
    (case l21 => k_is)
    (case c21 => k_is)
    (case k21 => k_is)
    (case xR => k_is)
    (case y1 => k_exc)
    (case cL => k_is)
    (case cN => k_is)
    (case cT => k_is)
    (case z_list => k_is)
    (case z_tuple => k_is)
    (case z_len => k_is)
    (case z_range => k_is)
    (case z_min => k_is)
    (case z_max => k_is)
    (case z_abs => k_is)
    (case z_isinstance => k_is)
    (case z_str => k_is)
    (case z_int => k_is)
    (case z_bool => k_is)
    (case z_reversed => k_is)
    (case z_enumerate => k_is)
    (case z_sorted => k_is)
#print axioms PySem.Challenge.cw_treetrim_k10_whole_written_and_read_holds
