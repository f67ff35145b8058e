import PyProof.Rows.All
import Wide.All
import OpenK.AllK
import Wide.FinOn
import Lean
import PyProof.EqAt
import PyProof.EqKinds
import PyProof.TupleCall
import KE.KWords
import PySem.Challenge.RW_treetrim_k11_lines_read_or_refused
set_option Elab.async false
set_option linter.all false
set_option maxRecDepth 100000
/-! THE HAND LAYER, for ints, bools, texts, own classes, LISTS and tuples (index, slices, in, append, pop ..), calls, loops. Paste it whole ahead of your own text; what your proof does not reach may be deleted. -/
namespace L2
open PySem PySem.Spec PyProof.Rows

/-- a key: an int or a str -/
abbrev Key := Sum Int Str
def keyIs : Key → Value → Bool
  | .inl k, v => Value.isInt k v
  | .inr x, v => Value.isStrOf x v
def keyH (w : World) : Key → Int
  | .inl k => hashInt k
  | .inr x => hashStr w x
theorem keyIs_shape : ∀ {k : Key} {v : Value}, keyIs k v = true → (∃ i t, k = Sum.inl i ∧ v = Value.int i t) ∨ (∃ x t, k = Sum.inr x ∧ v = Value.str x t)
  | .inl i, v, h => by
    obtain ⟨t, e⟩ := Value.isInt_shape (k := i) (v := v) h
    exact .inl ⟨i, t, rfl, e⟩
  | .inr x, v, h => by
    obtain ⟨t, e⟩ := Value.isStrOf_shape (x := x) (v := v) h
    exact .inr ⟨x, t, rfl, e⟩
theorem keyIs_int (i : Int) (t : Tok) : keyIs (.inl i) (.int i t) = true := by simp [keyIs, Value.isInt]
theorem keyIs_str (x : Str) (t : Tok) : keyIs (.inr x) (.str x t) = true := by simp [keyIs, Value.isStrOf]
theorem key_ll (a b : Int) : decide ((Sum.inl a : Key) = Sum.inl b) = (a == b) := by
  by_cases e : a = b
  · subst e; simp
  · have h : ¬ (Sum.inl a : Key) = Sum.inl b := fun q => e (Sum.inl.inj q)
    rw [decide_eq_false h]
    exact (beq_eq_false_iff_ne.mpr e).symm
theorem key_rr (a b : Str) : decide ((Sum.inr a : Key) = Sum.inr b) = decide (a = b) := by
  by_cases e : a = b
  · subst e; simp
  · have h : ¬ (Sum.inr a : Key) = Sum.inr b := fun q => e (Sum.inr.inj q)
    rw [decide_eq_false h, decide_eq_false e]
theorem key_lr (a : Int) (b : Str) : decide ((Sum.inl a : Key) = Sum.inr b) = false := decide_eq_false (fun q => nomatch q)
theorem key_rl (a : Str) (b : Int) : decide ((Sum.inr a : Key) = Sum.inl b) = false := decide_eq_false (fun q => nomatch q)

def mixKind (prog : Program) (w : World) : PySem.KeyKind prog w Key where
  is := keyIs
  hash := keyH w
  inj := fun v a b ha hb => by
    rcases keyIs_shape ha with ⟨i, t, rfl, rfl⟩ | ⟨x, t, rfl, rfl⟩
    · rcases keyIs_shape hb with ⟨j, u, rfl, e⟩ | ⟨y, u, rfl, e⟩
      · injection e with e1 _; rw [e1]
      · exact nomatch e
    · rcases keyIs_shape hb with ⟨j, u, rfl, e⟩ | ⟨y, u, rfl, e⟩
      · exact nomatch e
      · injection e with e1 _; rw [e1]
  byValue := fun k v h => by
    rcases keyIs_shape h with ⟨i, t, rfl, rfl⟩ | ⟨x, t, rfl, rfl⟩ <;> rfl
  pyHash := fun hv h => by
    rcases keyIs_shape hv with ⟨i, t, rfl, rfl⟩ | ⟨x, t, rfl, rfl⟩
    · exact wpAny_pyHash_int h
    · exact wpAny_pyHash_str h
  eqBool := fun hu hv h => by
    rcases keyIs_shape hu with ⟨i, t, rfl, rfl⟩ | ⟨x, t, rfl, rfl⟩
    · rcases keyIs_shape hv with ⟨j, u, rfl, rfl⟩ | ⟨y, u, rfl, rfl⟩
      · rw [key_ll] at h; exact wpAny_eqBool_int h
      · rw [key_lr] at h; exact SeqAt.EqAt.int_str i t y u _ _ _ _ h
    · rcases keyIs_shape hv with ⟨j, u, rfl, rfl⟩ | ⟨y, u, rfl, rfl⟩
      · rw [key_rl] at h; exact SeqAt.EqAt.str_int x t j u _ _ _ _ h
      · rw [key_rr] at h; exact wpAny_eqBool_str h
  «strs» := fun k x t v h => by
    rcases keyIs_shape h with ⟨i, u, rfl, e⟩ | ⟨y, u, rfl, e⟩
    · exact nomatch e
    · injection e with e1 _
      subst e1
      cases v <;> rfl

theorem mixKind_is (prog : Program) (w : World) (k : Key) (v : Value) : (mixKind prog w).is k v = keyIs k v := rfl
theorem mixKind_int (prog : Program) (w : World) (i : Int) (t : Tok) : (mixKind prog w).is (.inl i) (.int i t) = true := keyIs_int i t
theorem mixKind_str (prog : Program) (w : World) (x : Str) (t : Tok) : (mixKind prog w).is (.inr x) (.str x t) = true := keyIs_str x t
end L2

namespace L2
open PySem PySem.Spec PyProof.Rows

/-- a value, without the heap -/
inductive V where
  | non | bl (b : Bool) | int (i : Int) | str (x : Str) | byt (b : Array UInt8) | flt (b : UInt64) | ref (a : Addr) | ty (n : String)
  deriving DecidableEq

def RelV : V → Value → Prop
  | .non, u => u = Value.none
  | .bl b, u => u = Value.bool b
  | .int i, u => ∃ t, u = Value.int i t
  | .str x, u => ∃ t, u = Value.str x t
  | .byt b, u => ∃ t, u = Value.bytes b t
  | .flt b, u => ∃ t, u = Value.float b t
  | .ref a, u => u = Value.ref a
  | .ty n, u => u = Value.type n

abbrev Vals : List V → List Value → Prop := Paired RelV
theorem Vals.length {xs : List V} {us : List Value} (r : Vals xs us) : xs.length = us.length := Paired.length r
theorem Vals.get : ∀ {xs : List V} {us : List Value} {i : Nat} {x : V}, Vals xs us → xs[i]? = some x → ∃ u, us[i]? = some u ∧ RelV x u
  | _, _, _, _, .nil, e => by simp at e
  | _, _, 0, _, .cons r _, e => by simp at e; subst e; exact ⟨_, rfl, r⟩
  | _, _, i + 1, x, .cons _ t, e => by
    obtain ⟨u, h1, h2⟩ := Vals.get (i := i) (x := x) t (by simpa using e)
    exact ⟨u, by simpa using h1, h2⟩
theorem Vals.set {x : V} {u : Value} (r : RelV x u) : ∀ {xs : List V} {us : List Value} (i : Nat), Vals xs us → Vals (xs.set i x) (us.set i u)
  | _, _, _, .nil => .nil
  | _, _, 0, .cons _ t => .cons r t
  | _, _, i + 1, .cons q t => .cons q (Vals.set r i t)
theorem Vals.append : ∀ {xs ys : List V} {us ws : List Value}, Vals xs us → Vals ys ws → Vals (xs ++ ys) (us ++ ws)
  | _, _, _, _, .nil, s => s
  | _, _, _, _, .cons r t, s => .cons r (Vals.append t s)
theorem Vals.take : ∀ {xs : List V} {us : List Value} (n : Nat), Vals xs us → Vals (xs.take n) (us.take n)
  | _, _, 0, _ => .nil
  | _, _, _ + 1, .nil => .nil
  | _, _, n + 1, .cons r t => .cons r (Vals.take n t)
theorem Vals.drop : ∀ {xs : List V} {us : List Value} (n : Nat), Vals xs us → Vals (xs.drop n) (us.drop n)
  | _, _, 0, r => r
  | _, _, _ + 1, .nil => .nil
  | _, _, n + 1, .cons _ t => Vals.drop n t
theorem Vals.none_of : ∀ {xs : List V} {us : List Value} {i : Nat}, Vals xs us → xs[i]? = none → us[i]? = none := fun {xs us i} r e => by
  have h1 := r.length
  have h2 : xs.length ≤ i := List.getElem?_eq_none_iff.mp e
  exact List.getElem?_eq_none_iff.mpr (by omega)

def RelO : Option V → Option Value → Prop
  | some v, some u => RelV v u
  | none, none => True
  | _, _ => False
def KV {κ : Type} : List (κ × V) → List (κ × Value) → Prop := Paired fun (p : κ × V) (q : κ × Value) => p.1 = q.1 ∧ RelV p.2 q.2

/-- a key of a dict (00_mix): an int or a text -/
def kV : Key → V
  | .inl i => .int i
  | .inr x => .str x

/-- what stands at a tracked address -/
inductive HO where
  /-- a list -/
  | lst (xs : List V)
  /-- a tuple (never changes) -/
  | tup (xs : List V)
  /-- a dict whose keys are ints and texts; one whose keys are tuples of ints and texts (the empty one is both) -/
  | dK (kvs : List (Key × V)) | dT (kvs : List (List Key × V))
  /-- a set of ints: its members, its size -/
  | set (S : Int → Bool) (n : Nat)
  /-- an instance of the class at C, its dict at dx, its attributes -/
  | ins (C dx : Addr) (fs : List (Str × V))
  /-- the dict of the instance at x -/
  | own (x : Addr)
  /-- the dict of an exception -/
  | xd (fs : List (Str × V))
  /-- a bound method, f of x -/
  | met (f x : Addr)
  /-- a range object lo, lo + 1, .. below hi -/
  | rng (lo hi : Int)
  /-- a thing that is known to the object (the script; a dict while a loop walks it): read, never written while it is so -/
  | frz (o : Obj) (u : HO)
  /-- a code object's table -/
  | tbl (ps : Array Value)
  /-- any other thing, by what is true of its one object (a def of one's own: SetO a S n := HO.ext fun h => ..) -/
  | ext (φ : Heap → Prop)

abbrev Hp := Addr → Option HO
def upd (H : Hp) (a : Addr) (o : HO) : Hp := fun b => if b = a then some o else H b
theorem upd_same {H : Hp} {a : Addr} {o : HO} : upd H a o a = some o := by unfold upd; rw [if_pos rfl]
theorem upd_ne {H : Hp} {a b : Addr} {o : HO} (h : b ≠ a) : upd H a o b = H b := by unfold upd; rw [if_neg h]
theorem upd_upd {H : Hp} {a : Addr} {o u : HO} : upd (upd H a o) a u = upd H a u := by
  funext b; unfold upd; split <;> rfl
/-- two objects of different content stand apart -/
theorem ne_of {H : Hp} {a b : Addr} {o u : HO} (h : H a = some o) (h' : H b = some u) (d : o ≠ u) : a ≠ b := by
  intro e; subst e; rw [h] at h'; exact d (Option.some.inj h')
theorem ne_of_none {H : Hp} {a b : Addr} {o : HO} (h : H a = some o) (h' : H b = none) : a ≠ b := by
  intro e; subst e; rw [h] at h'; cases h'

section
variable (P : Program) (w : World)
def ObjOk (H : Hp) (h : Heap) (a : Addr) : HO → Prop
  | .lst xs => xs.length ≤ sizeLine ∧ ∃ (its : List Value) (n : Nat), Vals xs its ∧ h.get? a = some { cls := .type "list", data := .seq its.toArray n }
  | .tup xs => xs.length ≤ sizeLine ∧ ∃ its : List Value, Vals xs its ∧ IsTup h a its.toArray
  | .dK kvs => kvs.length ≤ sizeLine ∧ (a == sysModules) = false ∧ ∃ vs, KV kvs vs ∧ h.DictOf (mixKind P w) a vs
  | .dT kvs => kvs.length ≤ sizeLine ∧ (a == sysModules) = false ∧ ∃ xs : List (List Key × Addr × Value),
      Paired (fun (p : List Key × V) (q : List Key × Addr × Value) => p.1 = q.1 ∧ H q.2.1 = some (.tup (p.1.map kV)) ∧ RelV p.2 q.2.2) kvs xs ∧
      ∃ o es ep, h.get? a = some o ∧ o.ExactDict ∧ o.data = .dict es ep ∧ es.toList = xs.map (entryOfKey (tupleKind (mixKind P w))) ∧ (xs.map (·.1)).Nodup
  | .set S n => h.SetOf (intKind P w) a S n
  | .ins C dx fs => H dx = some (.own a) ∧ fs.length ≤ 1000 ∧ dx ≠ a ∧ h.get? a = some (PySem.W.instObj C dx) ∧
      ∃ mA, h.Ns1 dx mA ∧ (∀ f, RelO (fs.lookup f) (mA f)) ∧ PySem.Within mA (fs.map (·.1))
  | .own _ => ∃ o, h.get? a = some o
  | .xd fs => ∃ mA, h.Ns1 a mA ∧ ∀ f, RelO (fs.lookup f) (mA f)
  | .rng lo hi => ∃ t u v, h.get? a = some { cls := .type "range", data := .fields #[.int lo t, .int hi u, .int 1 v] }
  | .frz o u => h.get? a = some o ∧ ObjOk H h a u
  | .tbl ps => h.get? a = some { cls := .none, data := .fields ps }
  | .met f x => h.get? a = some (PySem.W.methodObj (.ref f) (.ref x))
  | .ext φ => φ h ∧ (∃ o, h.get? a = some o) ∧ ∀ h1 h2 : Heap, φ h1 → (∀ o, h1.get? a = some o → h2.get? a = some o) → φ h2
/-- the abstract heap is held -/
def HOk (H : Hp) (h : Heap) : Prop := ∀ a o, H a = some o → ObjOk P w H h a o
end

section
variable {P : Program} {w : World} {H H' : Hp} {h h' : Heap} {a : Addr} {o : HO}
theorem ObjOk.lt (x : ObjOk P w H h a o) : a < h.objs.size := by
  cases o with
  | lst xs => obtain ⟨_, _, _, _, e⟩ := x; exact Heap.lt_size e
  | tup xs => obtain ⟨_, _, _, p⟩ := x; exact p.lt
  | dK kvs => obtain ⟨_, _, _, _, o, _, _, e, _⟩ := x; exact Heap.lt_size e
  | dT kvs => obtain ⟨_, _, _, _, o, _, _, e, _⟩ := x; exact Heap.lt_size e
  | set S n => obtain ⟨o, _, _, _, e, _⟩ := x; exact Heap.lt_size e
  | ins C dx fs => obtain ⟨_, _, _, e, _⟩ := x; exact Heap.lt_size e
  | own y => obtain ⟨_, e⟩ := x; exact Heap.lt_size e
  | xd fs => obtain ⟨_, ⟨_, _, _, e, _⟩, _⟩ := x; exact Heap.lt_size e
  | rng lo hi => obtain ⟨_, _, _, e⟩ := x; exact Heap.lt_size e
  | frz ob u => obtain ⟨e, _⟩ := x; exact Heap.lt_size e
  | tbl ps => exact Heap.lt_size (show h.get? a = some _ from x)
  | met f y => exact Heap.lt_size (show h.get? a = some _ from x)
  | ext φ => obtain ⟨_, ⟨_, e⟩, _⟩ := x; exact Heap.lt_size e
theorem Paired.mapP {α β : Type} {F G : α → β → Prop} : ∀ {l₁ : List α} {l₂ : List β}, Paired F l₁ l₂ → (∀ a b, F a b → G a b) → Paired G l₁ l₂
  | _, _, .nil, _ => .nil
  | _, _, .cons r t, f => .cons (f _ _ r) (Paired.mapP t f)
theorem Paired.imp' {α β : Type} {F G : α → β → Prop} (f : ∀ a b, F a b → G a b) {l₁ : List α} {l₂ : List β} (r : Paired F l₁ l₂) : Paired G l₁ l₂ := Paired.mapP r f
/-- what an object's description leans on: its own object, its own dict, the tuples -/
theorem ObjOk.stay (x : ObjOk P w H h a o) (k : ∀ b u, (b = a ∨ H b = some (.own a)) → h.get? b = some u → h'.get? b = some u)
    (ho : ∀ b, H b = some (.own a) → H' b = some (.own a)) (ht : ∀ b xs, H b = some (.tup xs) → H' b = some (.tup xs)) : ObjOk P w H' h' a o := by
  induction o with
  | lst xs => obtain ⟨z, its, n, r, e⟩ := x; exact ⟨z, its, n, r, k _ _ (.inl rfl) e⟩
  | tup xs => obtain ⟨z, its, r, ob, e, c⟩ := x; exact ⟨z, its, r, ob, k _ _ (.inl rfl) e, c⟩
  | dK kvs => obtain ⟨z, y, vs, r, ob, es, ep, e, c⟩ := x; exact ⟨z, y, vs, r, ob, es, ep, k _ _ (.inl rfl) e, c⟩
  | dT kvs =>
    obtain ⟨z, y, xs, r, ob, es, ep, e, c⟩ := x
    exact ⟨z, y, xs, Paired.mapP r fun p q z => ⟨z.1, ht _ _ z.2.1, z.2.2⟩, ob, es, ep, k _ _ (.inl rfl) e, c⟩
  | set S n => obtain ⟨ob, es, ep, t, e, c⟩ := x; exact ⟨ob, es, ep, t, k _ _ (.inl rfl) e, c⟩
  | ins C dx fs =>
    obtain ⟨d, z, ne, e, mA, ⟨od, es, ep, e2, c⟩, r⟩ := x
    exact ⟨ho _ d, z, ne, k _ _ (.inl rfl) e, mA, ⟨od, es, ep, k _ _ (.inr d) e2, c⟩, r⟩
  | own y => obtain ⟨ob, e⟩ := x; exact ⟨ob, k _ _ (.inl rfl) e⟩
  | xd fs => obtain ⟨mA, ⟨od, es, ep, e, c⟩, r⟩ := x; exact ⟨mA, ⟨od, es, ep, k _ _ (.inl rfl) e, c⟩, r⟩
  | rng lo hi => obtain ⟨t, u, v, e⟩ := x; exact ⟨t, u, v, k _ _ (.inl rfl) e⟩
  | frz ob u ih => obtain ⟨e, q⟩ := x; exact ⟨k _ _ (.inl rfl) e, ih q⟩
  | tbl ps =>
    have e : h.get? a = some { cls := .none, data := .fields ps } := x
    show h'.get? a = some { cls := .none, data := .fields ps }
    exact k a _ (.inl rfl) e
  | met f y =>
    have e : h.get? a = some (PySem.W.methodObj (.ref f) (.ref y)) := x
    show h'.get? a = some (PySem.W.methodObj (.ref f) (.ref y))
    exact k a _ (.inl rfl) e
  | ext φ => obtain ⟨p, ⟨o, e⟩, st⟩ := x; exact ⟨st _ _ p fun o q => k _ _ (.inl rfl) q, ⟨o, k _ _ (.inl rfl) e⟩, st⟩
theorem HOk.lt (x : HOk P w H h) (e : H a = some o) : a < h.objs.size := (x a o e).lt
theorem HOk.fresh (x : HOk P w H h) (e : h.objs.size ≤ a) : H a = none := by
  cases q : H a with
  | none => rfl
  | some u => exact absurd (Nat.lt_of_lt_of_le (x.lt q) e) (Nat.lt_irrefl _)
/-- every object of the heap is kept -/
theorem HOk.kept (x : HOk P w H h) (k : ∀ b u, h.get? b = some u → h'.get? b = some u) : HOk P w H h' := fun a o e =>
  (x a o e).stay (fun b u _ q => k b u q) (fun _ q => q) fun _ _ q => q
/-- a new object is laid and tracked -/
theorem HOk.laid (x : HOk P w H h) (k : ∀ b u, h.get? b = some u → h'.get? b = some u) (hp : h.objs.size ≤ a) (new : ObjOk P w (upd H a o) h' a o) : HOk P w (upd H a o) h' := fun b u e => by
  have hn := x.fresh hp
  by_cases hb : b = a
  · subst hb; rw [upd_same] at e; cases e; exact new
  · rw [upd_ne hb] at e
    exact (x b u e).stay (fun c v _ q => k c v q) (fun c q => by rw [upd_ne (ne_of_none q hn)]; exact q) fun c xs q => by rw [upd_ne (ne_of_none q hn)]; exact q
end

/-- what may be read as u: it is u, or a known u -/
def Rd (H : Hp) (a : Addr) (u : HO) : Prop := H a = some u ∨ ∃ o, H a = some (.frz o u)
theorem Rd.of {H : Hp} {a : Addr} {u : HO} (h : H a = some u) : Rd H a u := .inl h
theorem Rd.ok {P : Program} {w : World} {H : Hp} {h : Heap} {a : Addr} {u : HO} (r : Rd H a u) (x : HOk P w H h) : ObjOk P w H h a u := by
  rcases r with r | ⟨o, r⟩
  · exact x a u r
  · obtain ⟨_, q⟩ := x a _ r
    exact q
/-- what may be written -/
def Mut : Option HO → Prop
  | some (.lst _) => True
  | some (.dK _) => True
  | some (.dT _) => True
  | some (.set _ _) => True
  | some (.ins _ _ _) => True
  | some (.ext _) => True
  | _ => False
section
variable {P : Program} {w : World} {H : Hp} {h h' : Heap} {x e : Addr} {o' : HO}
/-- the object at e is changed: x itself, or the dict of the instance x -/
theorem HOk.write (ok : HOk P w H h) (mu : Mut (H x)) (he : e = x ∨ H e = some (.own x)) (k : ∀ b u, b ≠ e → h.get? b = some u → h'.get? b = some u) (heo : ∃ u, h'.get? e = some u)
    (new : ObjOk P w (upd H x o') h' x o') : HOk P w (upd H x o') h' := fun b u q => by
  have nown : ∀ c y, H c = some (.own y) → c ≠ x := fun c y r z => by subst z; rw [r] at mu; exact mu
  have ntup : ∀ c xs, H c = some (.tup xs) → c ≠ x := fun c xs r z => by subst z; rw [r] at mu; exact mu
  by_cases hb : b = x
  · subst hb; rw [upd_same] at q; cases q; exact new
  · rw [upd_ne hb] at q
    by_cases hbe : b = e
    · have q' : H b = some (.own x) := by
        rcases he with z | z
        · exact absurd (hbe.trans z) hb
        · rw [hbe]; exact z
      rw [q] at q'; cases q'
      obtain ⟨v, hv⟩ := heo
      exact ⟨v, by rw [hbe]; exact hv⟩
    · refine (ok b u q).stay (fun c v hc r => k c v ?_ r) (fun c r => by rw [upd_ne (nown c b r)]; exact r) fun c xs r => by rw [upd_ne (ntup c xs r)]; exact r
      rcases hc with rfl | hc
      · exact hbe
      · rintro rfl
        rcases he with z | z
        · exact nown c b hc z
        · rw [hc] at z; cases z; exact hb rfl
end

/-! ### kept unless tracked; of the frames at fs (the callers') the slots may change (an exception that passes writes there); of the records at ex (iterators) nothing is said -/
structure Un (fs ex : List Addr) (H H' : Hp) (h h' : Heap) : Prop where
  keep : ∀ b o, h.get? b = some o → H b = none → b ∉ fs → b ∉ ex → h'.get? b = some o
  slot : ∀ b o, h.get? b = some o → H b = none → b ∈ fs → b ∉ ex → ∃ sl, h'.get? b = some { o with slots := sl }
  free : ∀ b o, h.get? b = some o → H b = none → b ∉ ex → H' b = none
  there : ∀ b o, h.get? b = some o → b ∉ ex → ∃ o', h'.get? b = some o'
  tups : ∀ b xs, H b = some (.tup xs) → H' b = some (.tup xs)
  frzs : ∀ b o u, H b = some (.frz o u) → H' b = some (.frz o u)
  tbls : ∀ b ps, H b = some (.tbl ps) → ∃ more, H' b = some (.tbl (ps ++ more))
section
variable {fs fs' ex ex' : List Addr} {H H1 H2 : Hp} {h h1 h2 h' : Heap} {a x e : Addr} {o : HO}
theorem Un.any (u : Un fs ex H H1 h h1) {b : Addr} {ob : Obj} (q : h.get? b = some ob) (n : H b = none) (hx : b ∉ ex) : ∃ sl, h1.get? b = some { ob with slots := sl } := by
  by_cases hb : b ∈ fs
  · exact u.slot b ob q n hb hx
  · exact ⟨ob.slots, u.keep b ob q n hb hx⟩
theorem Un.trans (a : Un fs ex H H1 h h1) (b : Un fs ex H1 H2 h1 h2) : Un fs ex H H2 h h2 where
  keep := fun c ob q n hc hx => b.keep c ob (a.keep c ob q n hc hx) (a.free c ob q n hx) hc hx
  slot := fun c ob q n hc hx => by
    obtain ⟨sl, e1⟩ := a.slot c ob q n hc hx
    obtain ⟨sl', e2⟩ := b.slot c _ e1 (a.free c ob q n hx) hc hx
    exact ⟨sl', e2⟩
  free := fun c ob q n hx => by
    obtain ⟨o', e1⟩ := a.there c ob q hx
    exact b.free c o' e1 (a.free c ob q n hx) hx
  there := fun c ob q hx => by
    obtain ⟨o', e1⟩ := a.there c ob q hx
    exact b.there c o' e1 hx
  tups := fun c xs q => b.tups c xs (a.tups c xs q)
  frzs := fun c ob xs q => b.frzs c ob xs (a.frzs c ob xs q)
  tbls := fun c ps q => by
    obtain ⟨m1, e1⟩ := a.tbls c ps q
    obtain ⟨m2, e2⟩ := b.tbls c _ e1
    exact ⟨m1 ++ m2, by rw [e2, Array.append_assoc]⟩
theorem Un.kept (k : ∀ b u, h.get? b = some u → h'.get? b = some u) : Un fs ex H H h h' :=
  ⟨fun b ob q _ _ _ => k b ob q, fun b ob q _ _ _ => ⟨ob.slots, k b ob q⟩, fun _ _ _ n _ => n, fun b ob q _ => ⟨ob, k b ob q⟩, fun _ _ q => q, fun _ _ _ q => q, fun _ ps q => ⟨#[], by rw [q]; simp⟩⟩
theorem Un.refl : Un fs ex H H h h := Un.kept fun _ _ q => q
theorem Un.laid (k : ∀ b u, h.get? b = some u → h'.get? b = some u) (hp : h.objs.size ≤ a) (hn : H a = none) : Un fs ex H (upd H a o) h h' where
  keep := fun b u q _ _ _ => k b u q
  slot := fun b u q _ _ _ => ⟨u.slots, k b u q⟩
  free := fun b u q n _ => by rw [upd_ne (Nat.ne_of_lt (Nat.lt_of_lt_of_le (Heap.lt_size q) hp))]; exact n
  there := fun b u q _ => ⟨u, k b u q⟩
  tups := fun b xs q => by rw [upd_ne (ne_of_none q hn)]; exact q
  frzs := fun b u xs q => by rw [upd_ne (ne_of_none q hn)]; exact q
  tbls := fun b ps q => ⟨#[], by rw [upd_ne (ne_of_none q hn), q]; simp⟩
theorem Un.write (mu : Mut (H x)) (he : e = x ∨ H e = some (.own x)) (k : ∀ b u, b ≠ e → h.get? b = some u → h'.get? b = some u) (heo : ∃ u, h'.get? e = some u) : Un fs ex H (upd H x o) h h' := by
  have hx : ∀ b, H b = none → b ≠ x := fun b n z => by subst z; rw [n] at mu; exact mu
  have hb : ∀ b, H b = none → b ≠ e := fun b n z => by
    subst z
    rcases he with r | r
    · exact hx b n r
    · rw [n] at r; cases r
  have hm : ∀ b u, H b = some u → ¬ Mut (some u) → b ≠ x := fun b u q nm z => by subst z; rw [q] at mu; exact nm mu
  refine ⟨fun b u q n _ _ => k b u (hb b n) q, fun b u q n _ _ => ⟨u.slots, k b u (hb b n) q⟩, fun b u q n _ => by rw [upd_ne (hx b n)]; exact n, fun b u q _ => ?_,
    fun b xs q => by rw [upd_ne (hm b _ q fun z => z)]; exact q, fun b u xs q => by rw [upd_ne (hm b _ q fun z => z)]; exact q, fun b ps q => ⟨#[], by rw [upd_ne (hm b _ q fun z => z), q]; simp⟩⟩
  by_cases hbe : b = e
  · subst hbe; exact heo
  · exact ⟨u, k b u hbe q⟩
theorem Un.mono (u : Un fs ex H H1 h h1) (hs : ∀ b ∈ fs, b ∈ fs') (hx : ∀ b ∈ ex, b ∈ ex') : Un fs' ex' H H1 h h1 :=
  ⟨fun b ob q n hb he => u.keep b ob q n (fun z => hb (hs b z)) fun z => he (hx b z), fun _ _ q n _ he => u.any q n fun z => he (hx _ z), fun b ob q n he => u.free b ob q n fun z => he (hx b z), fun b ob q he => u.there b ob q fun z => he (hx b z), u.tups, u.frzs, u.tbls⟩
end

/-! ### the heap without what is tracked -/
def trk (h : Heap) (H : Hp) : List Addr := (List.range h.objs.size).filter fun a => (H a).isSome
def hidT (h : Heap) (H : Hp) : Heap := PySem.W.hideAll h (trk h H)
theorem hidT_size (h : Heap) (H : Hp) : (hidT h H).objs.size = h.objs.size := PySem.W.hideAll_size _ _
theorem hidT_get {h : Heap} {H : Hp} {b : Addr} {o : Obj} (e : h.get? b = some o) (n : H b = none) : (hidT h H).get? b = some o :=
  PySem.W.hideAll_get _ e fun hm => by
    have q : (H b).isSome = true := (List.mem_filter.mp hm).2
    rw [n] at q; simp at q
theorem of_hidT {h : Heap} {H : Hp} {b : Addr} {o : Obj} (e : (hidT h H).get? b = some o) : h.get? b = some o ∧ H b = none := by
  have e' : h.get? b = some o := PySem.W.of_hideAll (trk h H) e
  refine ⟨e', ?_⟩
  cases q : H b with
  | none => rfl
  | some x =>
    have hm : b ∈ trk h H := List.mem_filter.mpr ⟨List.mem_range.mpr (Heap.lt_size e'), by simp [q]⟩
    have z : (hidT h H).get? b = none := PySem.W.hideAll_none (trk h H) hm
    rw [z] at e; cases e

/-! ### OpenK's ledger, filled with every new object but one -/
def allNews (g h : Heap) (L : Addr) : List (Addr × Obj) := (List.range h.objs.size).filterMap fun a => if a = L ∨ (g.get? a).isSome = true then none else (h.get? a).map fun o => (a, o)
theorem mem_allNews {g h : Heap} {L a : Addr} {o : Obj} (h1 : a ≠ L) (h2 : g.get? a = none) (h3 : h.get? a = some o) : (a, o) ∈ allNews g h L :=
  List.mem_filterMap.mpr ⟨a, List.mem_range.mpr (Heap.lt_size h3), by simp [h1, h2, h3]⟩
theorem of_mem_allNews {g h : Heap} {L : Addr} {p : Addr × Obj} (hp : p ∈ allNews g h L) : p.1 ≠ L ∧ g.get? p.1 = none ∧ h.get? p.1 = some p.2 := by
  obtain ⟨b, _, e⟩ := List.mem_filterMap.mp hp
  split at e
  · cases e
  · rename_i hn
    cases q : h.get? b with
    | none => rw [q] at e; simp at e
    | some u =>
      rw [q] at e
      simp only [Option.map_some, Option.some.injEq] at e
      subst e
      refine ⟨fun z => hn (.inl z), ?_, q⟩
      show g.get? b = none
      cases r : g.get? b with
      | none => rfl
      | some v => exact (hn (.inr (by simp [r]))).elim
def rest (g h : Heap) (L d : Addr) : List (Addr × Obj) := (allNews g h L).filter fun p => decide (p.1 ≠ d)
theorem rest_ne {g h : Heap} {L d : Addr} : ∀ p ∈ rest g h L d, p.1 ≠ d := fun p hp => of_decide_eq_true (List.mem_filter.mp hp).2
theorem mem_rest {g h : Heap} {L d a : Addr} {o : Obj} (h1 : a ≠ L) (h2 : g.get? a = none) (h3 : h.get? a = some o) (h4 : a ≠ d) : (a, o) ∈ rest g h L d :=
  List.mem_filter.mpr ⟨mem_allNews h1 h2 h3, decide_eq_true h4⟩
theorem news_all {g h : Heap} {L : Addr} : News g L h (allNews g h L) := fun p hp => let ⟨a, b, c⟩ := of_mem_allNews hp; ⟨c, a, b⟩
theorem news_at {g h : Heap} {L d : Addr} {o : Obj} (h1 : d ≠ L) (h2 : g.get? d = none) (h3 : h.get? d = some o) : News g L h ((d, o) :: rest g h L d) := fun p hp => by
  rcases List.mem_cons.mp hp with rfl | hp
  · exact ⟨h3, h1, h2⟩
  · exact news_all p (List.mem_filter.mp hp).1
/-- behind a rule that changed d alone: all else but the frame is kept -/
theorem kept_of_news {g h h' : Heap} {L d : Addr} {m : Str → Option Value} (k : ∀ b o, g.get? b = some o → h.get? b = some o) (F : Fr g L h' m) (N : News g L h' (rest g h L d)) :
    ∀ b o, b ≠ L → b ≠ d → h.get? b = some o → h'.get? b = some o := fun b o h1 h2 e => by
  cases q : g.get? b with
  | some u =>
    have := k b u q
    rw [e] at this; cases this
    exact F.keep b _ q
  | none => exact (N (b, o) (mem_rest h1 q e h2)).1
end L2

namespace L2
open PySem PySem.Spec PyProof.Rows

/-- the module's facts, over the base: the heap at the law's entry without what is tracked there -/
structure Mod (K : PySem.W.Frag) (mg : Str → Option Value) (base : Heap) : Prop where
  kin : K.In base
  glob : base.Ns mainGlobals mg
  blt : ∃ mb, base.Ns builtinsNs mb ∧ ∀ x : Str, x ≠ "__name__" → mb x = bootBuiltins x
  nolimit : base.NoLimit

/-- the context: a def's body (or a comprehension's block) running. base: fixed through the whole law; s₀, H₀: the entry; outer: the frames whose slots others may change (a def's callers); stack: all frames that run;
   ex: iterators that were made ahead of the entry and are walked here (a comprehension's); fn: the names whose cells were made at the entry (a def: all; a comprehension's block: its own); calm: not within an except suite; pn: pins that every state bears; xe: what is wanted of an exception that leaves the code -/
structure Cx where
  prog : Program
  w : World
  K : PySem.W.Frag
  mg : Str → Option Value
  base : Heap
  A : Around
  N : List Str
  s₀ : Shared
  H₀ : Hp
  env : Env
  outer : List Env
  stack : List Env
  ex : List Addr
  fn : Str → Bool
  calm : Bool
  pn : List (Addr × Obj)
  xe : Value → Shared → Prop
/-- the callers' frames -/
def frs (l : List Env) : List Addr := l.filterMap (·.frame)
abbrev Cx.fs (X : Cx) : List Addr := frs X.outer

def Vis (sc : Scope) (x : Str) : Prop := sc.names.lookup x = some .local ∨ sc.names.lookup x = some .cell ∨ sc.names.lookup x = some .free
def Loc (sc : Scope) (x : Str) : Prop := sc.names.lookup x = some .local ∨ sc.names.lookup x = some .cell
def Look (env : Env) (h : Heap) (m : Str → Option Value) (x : Str) (u : Value) : Prop :=
  (env.kindOf x = some .local ∧ m x = some u) ∨ ((env.kindOf x = some .cell ∨ env.kindOf x = some .free) ∧ ∃ c, env.cells.lookup x = some c ∧ h.IsCell c (some u))

structure Cx.Ok (X : Cx) : Prop where
  mod : Mod X.K X.mg X.base
  kind : X.env.scope.kind = .function
  glob : X.env.globals = mainGlobals
  blt : X.env.builtins = builtinsNs
  above : X.s₀.heap.objs.size ≤ X.env.locals
  inj : ∀ x y c, X.env.cells.lookup x = some c → X.env.cells.lookup y = some c → x = y
  has : ∀ x, (X.env.kindOf x = some .cell ∨ X.env.kindOf x = some .free) → ∃ c, X.env.cells.lookup x = some c
  cab : ∀ x c, X.fn x = true → X.env.cells.lookup x = some c → X.s₀.heap.objs.size ≤ c
  hd : X.calm = true → X.A.handled = none
  frames : X.A.frames = some X.stack
  stk : X.stack = X.outer ∨ (X.stack = X.env :: X.outer ∧ X.env.frame = some X.env.locals)
  exf : ∀ b ∈ X.ex, b ≠ X.env.locals ∧ ∀ x c, X.env.cells.lookup x = some c → c ≠ b
  bs : ∀ b o, X.base.get? b = some o → X.s₀.heap.get? b = some o ∧ X.H₀ b = none
  bsz : X.base.objs.size ≤ X.s₀.heap.objs.size
  noex : ∀ b o, X.base.get? b = some o → b ∉ X.ex
  exfs : ∀ b ∈ X.ex, b ∉ X.fs
  funs : X.s₀.heap.FunFrames X.base X.outer
  frf : ∀ b ∈ X.fs, X.H₀ b = none

structure Inv (X : Cx) (pins : List (Addr × Obj)) (σ : List (Option V)) (H : Hp) (s : Shared) : Prop where
  ok : X.Ok
  os : s.os = X.s₀.os
  bare : AllBare s.gens
  base : Un X.fs X.ex X.H₀ H X.s₀.heap s.heap
  loc : ∃ m, s.heap.Ns X.env.locals m ∧ ∀ (i : Nat) (x : Str) (v : V), X.N[i]? = some x → σ[i]? = some (some v) → Vis X.env.scope x → ∃ u, RelV v u ∧ Look X.env s.heap m x u
  cell : ∀ x c, X.env.cells.lookup x = some c → ∃ v, s.heap.IsCell c v
  free : H X.env.locals = none
  freeC : ∀ x c, X.env.cells.lookup x = some c → H c = none
  pin : ∀ p ∈ X.pn ++ pins, s.heap.get? p.1 = some p.2 ∧ H p.1 = none ∧ p.1 ≠ X.env.locals ∧ p.1 ∉ X.fs ∧ ∀ v, p.2.data ≠ .cell v
  hok : HOk X.prog X.w H s.heap
  len : σ.length = X.N.length

section
variable {X : Cx} {pins : List (Addr × Obj)} {σ : List (Option V)} {H H' : Hp} {s : Shared} {h' : Heap}

theorem Cx.Ok.nofr (ok : X.Ok) {b : Addr} {o : Obj} (e : X.base.get? b = some o) : b ∉ X.fs := fun hb => by
  have := (ok.funs.mem hb).1
  rw [e] at this; cases this
theorem Inv.bs (I : Inv X pins σ H s) : ∀ b o, X.base.get? b = some o → s.heap.get? b = some o ∧ H b = none := fun b o e =>
  ⟨I.base.keep b o (I.ok.bs b o e).1 (I.ok.bs b o e).2 (I.ok.nofr e) (I.ok.noex b o e), I.base.free b o (I.ok.bs b o e).1 (I.ok.bs b o e).2 (I.ok.noex b o e)⟩
theorem Inv.bk (I : Inv X pins σ H s) : ∀ b o, X.base.get? b = some o → s.heap.get? b = some o := fun b o e => (I.bs b o e).1
theorem Inv.mod (I : Inv X pins σ H s) : Mod X.K X.mg X.base := I.ok.mod
theorem Inv.kIn (I : Inv X pins σ H s) : X.K.In s.heap := I.ok.mod.kin.keeps I.bk
theorem Inv.nolimit (I : Inv X pins σ H s) : s.heap.NoLimit := I.ok.mod.nolimit.keeps I.bk
/-- the frame over the base: for OpenK's rules (K.In X.base is I.mod.kin) -/
theorem Inv.fr (I : Inv X pins σ H s) : ∃ m, Fr X.base X.env.locals s.heap m :=
  let ⟨m, hn, _⟩ := I.loc
  ⟨m, hn, I.bk, Nat.le_trans I.ok.bsz I.ok.above⟩
theorem Inv.lt (I : Inv X pins σ H s) : X.env.locals < s.heap.objs.size := let ⟨_, hn, _⟩ := I.loc; hn.lt
theorem Inv.sz (I : Inv X pins σ H s) : X.s₀.heap.objs.size ≤ s.heap.objs.size := Nat.le_trans I.ok.above (Nat.le_of_lt I.lt)
theorem Inv.nofs (I : Inv X pins σ H s) {a : Addr} (h : s.heap.objs.size ≤ a) : a ∉ X.fs := fun hb => by
  obtain ⟨_, o, ho, _⟩ := I.ok.funs.mem hb
  exact absurd (Nat.lt_of_lt_of_le (Heap.lt_size ho) (Nat.le_trans I.sz h)) (Nat.lt_irrefl _)
theorem Inv.cne (I : Inv X pins σ H s) : ∀ x c, X.env.cells.lookup x = some c → c ≠ X.env.locals := fun x c e z => by
  obtain ⟨v, o, ho, hd⟩ := I.cell x c e
  obtain ⟨m, ⟨o', es, ep, ho', hd', _⟩, _⟩ := I.loc
  rw [z, ho'] at ho; cases ho; rw [hd'] at hd; cases hd
theorem Inv.funs (I : Inv X pins σ H s) : s.heap.FunFrames X.base X.outer := by
  have all : ∀ (l : List Env), (∀ b ∈ frs l, b ∈ X.fs) → X.s₀.heap.FunFrames X.base l → s.heap.FunFrames X.base l := by
    intro l
    induction l with
    | nil => intro _ _; trivial
    | cons env r ih =>
      intro hs hl
      obtain ⟨hk, ⟨L, o, hf, hn, ho, hd⟩, hr⟩ := hl
      have hL : L ∈ X.fs := hs L (by unfold frs; rw [List.filterMap_cons, hf]; exact List.mem_cons_self)
      obtain ⟨sl, e⟩ := I.base.slot L o ho (I.ok.frf L hL) hL fun z => I.ok.exfs L z hL
      exact ⟨hk, ⟨L, _, hf, hn, e, hd⟩, ih (fun b hb => hs b (by unfold frs; rw [List.filterMap_cons, hf]; exact List.mem_cons_of_mem _ hb)) hr⟩
  exact all X.outer (fun _ hb => hb) I.ok.funs

/-- the frames that run, for a call -/
theorem Inv.stack (I : Inv X pins σ H s) : s.heap.FunFrames X.base X.stack := by
  rcases I.ok.stk with e | ⟨e, hf⟩
  · rw [e]; exact I.funs
  · rw [e]
    obtain ⟨m, hn, _⟩ := I.loc
    refine .cons (by rw [I.ok.kind]; decide) hf hn ?_ I.funs
    exact Heap.get?_none_of_le (Nat.le_trans I.ok.bsz I.ok.above)
theorem Inv.stkSub (I : Inv X pins σ H s) : ∀ b ∈ frs X.stack, b ∈ X.env.locals :: X.fs := fun b hb => by
  rcases I.ok.stk with e | ⟨e, hf⟩
  · rw [e] at hb; exact List.mem_cons_of_mem _ hb
  · rw [e] at hb
    unfold frs at hb
    rw [List.filterMap_cons, hf] at hb
    exact hb
theorem Inv.stkFree (I : Inv X pins σ H s) : ∀ b ∈ frs X.stack, H b = none := fun b hb => by
  rcases List.mem_cons.mp (I.stkSub b hb) with e | hb
  · rw [e]; exact I.free
  · obtain ⟨_, o, ho, _⟩ := I.ok.funs.mem hb
    exact I.base.free b o ho (I.ok.frf b hb) fun z => I.ok.exfs b z hb

/-- THE STEP: the untracked objects but the frame and the records at ch are kept (the callers' frames up to slots), the frame's map is kept, the new abstract heap is held -/
theorem Inv.step {g' : Array GenState} {t' : Nat} {d' : Drawn} {ch : List Addr} (I : Inv X pins σ H s)
    (hch : ∀ b ∈ ch, (b ∈ X.ex ∨ X.s₀.heap.objs.size ≤ b) ∧ b ≠ X.env.locals ∧ (∀ x c, X.env.cells.lookup x = some c → c ≠ b) ∧ ∀ p ∈ X.pn ++ pins, p.1 ≠ b)
    (keep : ∀ b o, b ≠ X.env.locals → b ∉ X.fs → b ∉ ch → s.heap.get? b = some o → H b = none → h'.get? b = some o)
    (slot : ∀ b o, b ≠ X.env.locals → b ∈ X.fs → b ∉ ch → s.heap.get? b = some o → H b = none → ∃ sl, h'.get? b = some { o with slots := sl }) (free : ∀ b o, b ∉ ch → s.heap.get? b = some o → H b = none → H' b = none)
    (there : ∀ b o, b ∉ ch → s.heap.get? b = some o → ∃ o', h'.get? b = some o')
    (tups : ∀ b xs, H b = some (.tup xs) → H' b = some (.tup xs)) (frzs : ∀ b o u, H b = some (.frz o u) → H' b = some (.frz o u)) (tbls : ∀ b ps, H b = some (.tbl ps) → ∃ more, H' b = some (.tbl (ps ++ more)))
    (ns : ∀ m, s.heap.Ns X.env.locals m → h'.Ns X.env.locals m) (hok : HOk X.prog X.w H' h') (hg : AllBare g') :
    Inv X pins σ H' { s with heap := h', gens := g', drawn := d', toks := t' } := by
  have neL : ∀ b o, X.s₀.heap.get? b = some o → b ≠ X.env.locals := fun b o e => Nat.ne_of_lt (Nat.lt_of_lt_of_le (Heap.lt_size e) I.ok.above)
  have neC : ∀ b o, X.s₀.heap.get? b = some o → b ∉ X.ex → b ∉ ch := fun b o e hx hb => by
    rcases (hch b hb).1 with z | z
    · exact hx z
    · exact absurd (Nat.lt_of_lt_of_le (Heap.lt_size e) z) (Nat.lt_irrefl _)
  have cellK : ∀ x c, X.env.cells.lookup x = some c → ∀ v, s.heap.IsCell c v → h'.IsCell c v := fun x c e v ⟨o, ho, hd⟩ => by
    have nch : c ∉ ch := fun z => (hch c z).2.2.1 x c e rfl
    by_cases hc : c ∈ X.fs
    · obtain ⟨sl, q⟩ := slot c o (I.cne x c e) hc nch ho (I.freeC x c e)
      exact ⟨_, q, hd⟩
    · exact ⟨o, keep c o (I.cne x c e) hc nch ho (I.freeC x c e), hd⟩
  refine ⟨I.ok, I.os, hg, ⟨fun b o e n hb hx => ?_, fun b o e n hb hx => ?_, fun b o e n hx => ?_, fun b o e hx => ?_, fun b xs e => tups b xs (I.base.tups b xs e), fun b o xs e => frzs b o xs (I.base.frzs b o xs e), fun b ps e => ?_⟩, ?_, fun x c e => ?_, ?_, fun x c e => ?_, fun p hp => ?_, hok, I.len⟩
  · exact keep b o (neL b o e) hb (neC b o e hx) (I.base.keep b o e n hb hx) (I.base.free b o e n hx)
  · obtain ⟨sl, e1⟩ := I.base.slot b o e n hb hx
    obtain ⟨sl', e2⟩ := slot b _ (neL b o e) hb (neC b o e hx) e1 (I.base.free b o e n hx)
    exact ⟨sl', e2⟩
  · obtain ⟨o', e1⟩ := I.base.there b o e hx
    exact free b o' (neC b o e hx) e1 (I.base.free b o e n hx)
  · obtain ⟨o', e1⟩ := I.base.there b o e hx
    exact there b o' (neC b o e hx) e1
  · obtain ⟨m1, e1⟩ := I.base.tbls b ps e
    obtain ⟨m2, e2⟩ := tbls b _ e1
    exact ⟨m1 ++ m2, by rw [e2, Array.append_assoc]⟩
  · obtain ⟨m, hn, hl⟩ := I.loc
    refine ⟨m, ns m hn, fun i x v e1 e2 e3 => ?_⟩
    obtain ⟨u, r, l⟩ := hl i x v e1 e2 e3
    refine ⟨u, r, ?_⟩
    rcases l with l | ⟨k, c, e, z⟩
    · exact .inl l
    · exact .inr ⟨k, c, e, cellK x c e _ z⟩
  · obtain ⟨v, z⟩ := I.cell x c e
    exact ⟨v, cellK x c e v z⟩
  · obtain ⟨m, ⟨o, _, _, ho, _⟩, _⟩ := I.loc
    exact free _ o (fun z => (hch _ z).2.1 rfl) ho I.free
  · obtain ⟨v, o, ho, hd⟩ := I.cell x c e
    exact free c o (fun z => (hch c z).2.2.1 x c e rfl) ho (I.freeC x c e)
  · obtain ⟨e, n, ne, nf, d⟩ := I.pin p hp
    have nch : p.1 ∉ ch := fun z => (hch p.1 z).2.2.2 p hp rfl
    exact ⟨keep p.1 p.2 ne nf nch e n, free p.1 p.2 nch e n, ne, nf, d⟩
/-- .. where the frame's own object is kept too -/
theorem Inv.un {t' : Nat} (I : Inv X pins σ H s) (u : Un X.fs [] H H' s.heap h') (hok : HOk X.prog X.w H' h') : Inv X pins σ H' { s with heap := h', toks := t' } := by
  obtain ⟨m, ⟨o, es, ep, ho, r⟩, _⟩ := id I.loc
  obtain ⟨sl, hL⟩ := u.any ho I.free (by simp)
  exact I.step (g' := s.gens) (d' := s.drawn) (ch := []) (fun _ z => nomatch z) (fun b o _ hb _ e n => u.keep b o e n hb (by simp)) (fun b o _ hb _ e n => u.slot b o e n hb (by simp)) (fun b o _ e n => u.free b o e n (by simp)) (fun b o _ e => u.there b o e (by simp)) u.tups u.frzs u.tbls (fun m' hm => by
    obtain ⟨o', es', ep', ho', r'⟩ := hm
    rw [ho] at ho'; cases ho'
    exact ⟨_, es', ep', hL, r'⟩) hok I.bare
/-- behind a call (or a comprehension's block): the slots of this frame may have changed too, the records at ch may have turned -/
theorem Inv.call {g' : Array GenState} {t' : Nat} {d' : Drawn} {ch : List Addr} (I : Inv X pins σ H s) (u : Un (frs X.stack) ch H H' s.heap h') (hok : HOk X.prog X.w H' h') (hg : AllBare g')
    (hch : ∀ b ∈ ch, (b ∈ X.ex ∨ X.s₀.heap.objs.size ≤ b) ∧ b ≠ X.env.locals ∧ (∀ x c, X.env.cells.lookup x = some c → c ≠ b) ∧ ∀ p ∈ X.pn ++ pins, p.1 ≠ b) :
    Inv X pins σ H' { s with heap := h', gens := g', drawn := d', toks := t' } := by
  obtain ⟨m, ⟨o, es, ep, ho, r⟩, _⟩ := id I.loc
  obtain ⟨sl, hL⟩ := u.any ho I.free fun z => (hch _ z).2.1 rfl
  exact I.step (ch := ch) hch (fun b o hL hb hc e n => u.keep b o e n (fun z => (List.mem_cons.mp (I.stkSub b z)).elim hL hb) hc) (fun b o _ _ hc e n => u.any e n hc) (fun b o hc e n => u.free b o e n hc) (fun b o hc e => u.there b o e hc) u.tups u.frzs u.tbls (fun m' hm => by
    obtain ⟨o', es', ep', ho', r'⟩ := hm
    rw [ho] at ho'; cases ho'
    exact ⟨_, es', ep', hL, r'⟩) hok hg
/-- an untracked record of ours (an iterator) has turned -/
theorem Inv.turned {t' : Nat} {it : Addr} (I : Inv X pins σ H s) (k : ∀ b o, b ≠ it → s.heap.get? b = some o → h'.get? b = some o) (hn : H it = none) (hL : it ≠ X.env.locals)
    (h1 : it ∈ X.ex ∨ X.s₀.heap.objs.size ≤ it) (h2 : ∀ x c, X.env.cells.lookup x = some c → c ≠ it) (h3 : ∀ p ∈ X.pn ++ pins, p.1 ≠ it) : Inv X pins σ H { s with heap := h', toks := t' } := by
  have nit : ∀ b u, H b = some u → b ≠ it := fun b u e z => by rw [z, hn] at e; cases e
  refine I.step (g' := s.gens) (d' := s.drawn) (ch := [it]) (fun b hb => ?_) (fun b o _ _ hc e _ => k b o (fun z => hc (by simp [z])) e) (fun b o _ _ hc e _ => ⟨o.slots, k b o (fun z => hc (by simp [z])) e⟩) (fun _ _ _ _ n => n)
    (fun b o hc e => ⟨o, k b o (fun z => hc (by simp [z])) e⟩) (fun _ _ e => e) (fun _ _ _ e => e) (fun b ps e => ⟨#[], by rw [e]; simp⟩) (fun m hm => ?_) (fun b u e => ?_) I.bare
  · have e : b = it := by simpa using hb
    subst e
    exact ⟨h1, hL, h2, h3⟩
  · obtain ⟨o, es, ep, ho, r⟩ := hm
    exact ⟨o, es, ep, k _ o (Ne.symm hL) ho, r⟩
  · refine (I.hok b u e).stay (fun c v hc q => k c v ?_ q) (fun _ q => q) fun _ _ q => q
    rcases hc with z | z
    · rw [z]; exact nit b u e
    · exact nit c _ z
theorem Inv.tok (I : Inv X pins σ H s) (t : Nat) : Inv X pins σ H { s with toks := t } := I.un (h' := s.heap) (t' := t) Un.refl I.hok
/-- all objects kept -/
theorem Inv.kept {t' : Nat} (I : Inv X pins σ H s) (k : ∀ b u, s.heap.get? b = some u → h'.get? b = some u) : Inv X pins σ H { s with heap := h', toks := t' } := I.un (Un.kept k) (I.hok.kept k)
/-- a new object laid and tracked -/
theorem Inv.laid {a : Addr} {o : HO} {t' : Nat} (I : Inv X pins σ H s) (k : ∀ b u, s.heap.get? b = some u → h'.get? b = some u) (hp : s.heap.objs.size ≤ a) (new : ObjOk X.prog X.w (upd H a o) h' a o) :
    Inv X pins σ (upd H a o) { s with heap := h', toks := t' } := I.un (Un.laid k hp (I.hok.fresh hp)) (I.hok.laid k hp new)
/-- an object written -/
theorem Inv.write {x e : Addr} {o : HO} {t' : Nat} (I : Inv X pins σ H s) (mu : Mut (H x)) (he : e = x ∨ H e = some (.own x)) (k : ∀ b u, b ≠ e → s.heap.get? b = some u → h'.get? b = some u) (heo : ∃ u, h'.get? e = some u)
    (new : ObjOk X.prog X.w (upd H x o) h' x o) : Inv X pins σ (upd H x o) { s with heap := h', toks := t' } := I.un (Un.write mu he k heo) (I.hok.write mu he k heo new)
/-- forgetting slots, pins -/
theorem Inv.weak {σ' : List (Option V)} (I : Inv X pins σ H s) (hl : σ'.length = σ.length) (w : ∀ (i : Nat) v, σ'[i]? = some (some v) → σ[i]? = some (some v)) : Inv X pins σ' H s :=
  ⟨I.ok, I.os, I.bare, I.base, let ⟨m, hn, hl'⟩ := I.loc; ⟨m, hn, fun i x v e1 e2 e3 => hl' i x v e1 (w i v e2) e3⟩, I.cell, I.free, I.freeC, I.pin, I.hok, hl.trans I.len⟩
theorem Inv.pins_of {pins' : List (Addr × Obj)} (I : Inv X pins σ H s) (h : ∀ p ∈ pins', s.heap.get? p.1 = some p.2 ∧ H p.1 = none ∧ p.1 ≠ X.env.locals ∧ p.1 ∉ X.fs ∧ ∀ v, p.2.data ≠ .cell v) : Inv X pins' σ H s :=
  ⟨I.ok, I.os, I.bare, I.base, I.loc, I.cell, I.free, I.freeC, fun p hp => (List.mem_append.mp hp).elim (fun z => I.pin p (List.mem_append_left _ z)) (h p), I.hok, I.len⟩

theorem nodup_ix {N : List Str} (hN : N.Nodup) {i j : Nat} {x : Str} (a : N[i]? = some x) (b : N[j]? = some x) : i = j := by
  obtain ⟨h1, e1⟩ := List.getElem?_eq_some_iff.mp a
  obtain ⟨h2, e2⟩ := List.getElem?_eq_some_iff.mp b
  exact (List.getElem_inj hN).mp (e1.trans e2.symm)

/-- a name is stored; what changed -/
theorem store_ok2 {M : Model} {A : Around} {E : Value → Shared → Prop} {i : Nat} {x : Str} {v : V} {u : Value} {Q : Unit → Shared → Prop} (I : Inv X pins σ H s) (hN : X.N.Nodup) (hi : X.N[i]? = some x) (hx : Loc X.env.scope x) (r : RelV v u)
    (h : ∀ s', Inv X pins (σ.set i (some v)) H s' → (∃ a, Heap.SameBut a s.heap s'.heap ∧ (a = X.env.locals ∨ X.env.cells.lookup x = some a)) → Q () s') (hf : X.fn x = true ∨ X.env.scope.names.lookup x = some .local := by first | exact .inl rfl | exact .inr rfl | assumption) : wpAny M A (storeName X.env x u) Q E s := by
  obtain ⟨m, hn, hl⟩ := id I.loc
  have hcls : (X.env.scope.kind == .class || (X.env.scope.kind == .module && X.env.locals != X.env.globals)) = false := by rw [I.ok.kind]; rfl
  have hiσ : i < σ.length := by rw [I.len]; exact (List.getElem?_eq_some_iff.mp hi).1
  have cne := I.cne
  have tracked : ∀ {a : Addr} {h' : Heap}, (∃ o, s.heap.get? a = some o ∧ H a = none) → Heap.SameBut a s.heap h' → HOk X.prog X.w H h' := fun {a h'} ha hs b ob e => by
    obtain ⟨_, _, hfree⟩ := ha
    refine (I.hok b ob e).stay (fun c w' hc q => (hs.2 c ?_).trans q) (fun _ q => q) fun _ _ q => q
    rintro rfl
    rcases hc with rfl | hc
    · rw [hfree] at e; cases e
    · rw [hfree] at hc; cases hc
  rcases hx with hk | hk
  · refine wpAny_storeName_local hk hn (fun h' hn' hs => ?_) hcls
    obtain ⟨oL, _, _, hoL, _⟩ := id hn
    refine h _ ⟨I.ok, I.os, I.bare, ⟨fun b o e n hb hx => ?_, fun b o e n hb hx => ?_, I.base.free, fun b o e hx => ?_, I.base.tups, I.base.frzs, I.base.tbls⟩, ⟨_, hn', fun j y v' e1 e2 e3 => ?_⟩, fun y c e => ?_, I.free, I.freeC, fun p hp => ?_, tracked ⟨oL, hoL, I.free⟩ hs, by simpa using I.len⟩ ⟨_, hs, .inl rfl⟩
    · exact (hs.2 b (Nat.ne_of_lt (Nat.lt_of_lt_of_le (Heap.lt_size e) I.ok.above))).trans (I.base.keep b o e n hb hx)
    · obtain ⟨sl, e1⟩ := I.base.slot b o e n hb hx
      exact ⟨sl, (hs.2 b (Nat.ne_of_lt (Nat.lt_of_lt_of_le (Heap.lt_size e) I.ok.above))).trans e1⟩
    · obtain ⟨o', e1⟩ := I.base.there b o e hx
      exact ⟨o', (hs.2 b (Nat.ne_of_lt (Nat.lt_of_lt_of_le (Heap.lt_size e) I.ok.above))).trans e1⟩
    · by_cases hj : j = i
      · subst hj
        rw [hi] at e1; cases e1
        rw [List.getElem?_set_self hiσ] at e2
        cases e2
        exact ⟨u, r, .inl ⟨hk, by simp⟩⟩
      · rw [List.getElem?_set_ne (Ne.symm hj)] at e2
        obtain ⟨u', r', q⟩ := hl j y v' e1 e2 e3
        refine ⟨u', r', ?_⟩
        rcases q with ⟨k, e⟩ | ⟨k, c, e, z⟩
        · refine .inl ⟨k, ?_⟩
          have : y ≠ x := fun e => hj (nodup_ix hN e1 (e ▸ hi))
          simp [this, e]
        · exact .inr ⟨k, c, e, z.sameBut hs (cne y c e)⟩
    · obtain ⟨w', z⟩ := I.cell y c e
      exact ⟨w', z.sameBut hs (cne y c e)⟩
    · obtain ⟨e, n, ne, nf, d⟩ := I.pin p hp
      exact ⟨(hs.2 p.1 ne).trans e, n, ne, nf, d⟩
  · have hfn : X.fn x = true := by
      rcases hf with z | z
      · exact z
      · rw [z] at hk; cases hk
    obtain ⟨c, hc⟩ := I.ok.has x (.inl hk)
    obtain ⟨w', z⟩ := I.cell x c hc
    refine wpAny_storeName_cell I.ok.kind hk hc z (fun h' hc' hs => ?_)
    obtain ⟨oc, hoc, hocd⟩ := id z
    refine h { s with heap := h' } ⟨I.ok, I.os, I.bare, ⟨fun b o e n hb hx => ?_, fun b o e n hb hx => ?_, I.base.free, fun b o e hx => ?_, I.base.tups, I.base.frzs, I.base.tbls⟩, ⟨m, hn.sameBut hs (Ne.symm (cne x c hc)), fun j y v' e1 e2 e3 => ?_⟩, fun y c' e => ?_, I.free, I.freeC, fun p hp => ?_, tracked ⟨oc, hoc, I.freeC x c hc⟩ hs, by simpa using I.len⟩ ⟨c, hs, .inr hc⟩
    · exact (hs.2 b (Nat.ne_of_lt (Nat.lt_of_lt_of_le (Heap.lt_size e) (I.ok.cab x c hfn hc)))).trans (I.base.keep b o e n hb hx)
    · obtain ⟨sl, e1⟩ := I.base.slot b o e n hb hx
      exact ⟨sl, (hs.2 b (Nat.ne_of_lt (Nat.lt_of_lt_of_le (Heap.lt_size e) (I.ok.cab x c hfn hc)))).trans e1⟩
    · obtain ⟨o', e1⟩ := I.base.there b o e hx
      exact ⟨o', (hs.2 b (Nat.ne_of_lt (Nat.lt_of_lt_of_le (Heap.lt_size e) (I.ok.cab x c hfn hc)))).trans e1⟩
    · by_cases hj : j = i
      · subst hj
        rw [hi] at e1; cases e1
        rw [List.getElem?_set_self hiσ] at e2
        cases e2
        exact ⟨u, r, .inr ⟨.inl hk, c, hc, hc'⟩⟩
      · rw [List.getElem?_set_ne (Ne.symm hj)] at e2
        obtain ⟨u', r', q⟩ := hl j y v' e1 e2 e3
        refine ⟨u', r', ?_⟩
        rcases q with q | ⟨k, c', e, z'⟩
        · exact .inl q
        · refine .inr ⟨k, c', e, z'.sameBut hs ?_⟩
          rintro rfl
          exact hj (nodup_ix hN e1 (I.ok.inj _ _ _ e hc ▸ hi))
    · by_cases hcc : c' = c
      · subst hcc; exact ⟨_, hc'⟩
      · obtain ⟨w2, z2⟩ := I.cell y c' e
        exact ⟨w2, z2.sameBut hs hcc⟩
    · obtain ⟨e, n, ne, nf, d⟩ := I.pin p hp
      refine ⟨(hs.2 p.1 ?_).trans e, n, ne, nf, d⟩
      intro q
      rw [q, hoc] at e
      have q' : oc = p.2 := Option.some.inj e
      exact d w' (by rw [← q']; exact hocd)
theorem store_ok {M : Model} {A : Around} {E : Value → Shared → Prop} {i : Nat} {x : Str} {v : V} {u : Value} {Q : Unit → Shared → Prop} (I : Inv X pins σ H s) (hN : X.N.Nodup) (hi : X.N[i]? = some x) (hx : Loc X.env.scope x) (r : RelV v u)
    (h : ∀ s', Inv X pins (σ.set i (some v)) H s' → Q () s') (hf : X.fn x = true ∨ X.env.scope.names.lookup x = some .local := by first | exact .inl rfl | exact .inr rfl | assumption) : wpAny M A (storeName X.env x u) Q E s :=
  store_ok2 I hN hi hx r (fun s' I' _ => h s' I') hf
/-- behind a call or a block, the state as it is -/
theorem Inv.call' {s' : Shared} {ch : List Addr} (I : Inv X pins σ H s) (ho : s'.os = s.os) (u : Un (frs X.stack) ch H H' s.heap s'.heap) (hok : HOk X.prog X.w H' s'.heap) (hg : AllBare s'.gens)
    (hch : ∀ b ∈ ch, (b ∈ X.ex ∨ X.s₀.heap.objs.size ≤ b) ∧ b ≠ X.env.locals ∧ (∀ x c, X.env.cells.lookup x = some c → c ≠ b) ∧ ∀ p ∈ X.pn ++ pins, p.1 ≠ b) : Inv X pins σ H' s' := by
  obtain ⟨h', g', d', t', o'⟩ := s'
  have e : o' = s.os := ho
  subst e
  exact I.call (g' := g') (t' := t') (d' := d') u hok hg hch
end

/-! ### the judgements -/
/-- an exception: its class, its own dict's address (where it has one), the abstract heap behind it -/
abbrev XK := Value → Option Addr → Hp → Prop
abbrev St := List (Option V)
abbrev VK := V → Hp → Prop
/-- an expression's reading; a test's; an argument list's -/
abbrev TE := St → Hp → VK → Prop
abbrev TT := St → Hp → (Bool → Hp → Prop) → Prop
abbrev TA := St → Hp → (List V → Hp → Prop) → Prop
/-- what is wanted behind a statement -/
structure Ends where
  nx : St → Hp → Prop
  rt : VK
  bk : St → Hp → Prop := fun _ _ => False
  ct : St → Hp → Prop := fun _ _ => False
abbrev TS := Ends → St → Hp → Prop

inductive EP (X : Cx) (pins : List (Addr × Obj)) (σ : St) (Q : VK) (u : Value) (s' : Shared) : Prop
  | mk (v : V) (H' : Hp) (i : Inv X pins σ H' s') (r : RelV v u) (q : Q v H') : EP X pins σ Q u s'
def TP (X : Cx) (pins : List (Addr × Obj)) (σ : St) (Q : Bool → Hp → Prop) (b : Bool) (s' : Shared) : Prop := ∃ H', Inv X pins σ H' s' ∧ Q b H'
inductive AP (X : Cx) (pins : List (Addr × Obj)) (σ : St) (Q : List V → Hp → Prop) (us : List Value) (s' : Shared) : Prop
  | mk (vs : List V) (H' : Hp) (i : Inv X pins σ H' s') (r : Vals vs us) (q : Q vs H') : AP X pins σ Q us s'
def SP (X : Cx) (pins : List (Addr × Obj)) (D : Ends) (f : Flow) (s' : Shared) : Prop :=
  match f with
  | .next => ∃ σ' H', Inv X pins σ' H' s' ∧ D.nx σ' H'
  | .brk => ∃ σ' H', Inv X pins σ' H' s' ∧ D.bk σ' H'
  | .cont => ∃ σ' H', Inv X pins σ' H' s' ∧ D.ct σ' H'
  | .ret u => ∃ v σ' H', Inv X pins σ' H' s' ∧ RelV v u ∧ D.rt v H'

def PE (X : Cx) (e : Expr) (t : TE) : Prop :=
  ∀ (pins : List (Addr × Obj)) (s : Shared) (σ : St) (H : Hp) (Q : VK), Inv X pins σ H s → t σ H Q → wpAny (model X.prog X.w) X.A (eval e X.env) (EP X pins σ Q) X.xe s
def PT (X : Cx) (e : Expr) (t : TT) : Prop :=
  ∀ (pins : List (Addr × Obj)) (s : Shared) (σ : St) (H : Hp) (Q : Bool → Hp → Prop), Inv X pins σ H s → t σ H Q → wpAny (model X.prog X.w) X.A (isTrue e X.env (eval e X.env)) (TP X pins σ Q) X.xe s
/-- a test whatever its 'whole' is (and, or) -/
def PW (X : Cx) (e : Expr) (t : TT) : Prop :=
  ∀ (whole : Sem Value) (pins : List (Addr × Obj)) (s : Shared) (σ : St) (H : Hp) (Q : Bool → Hp → Prop), Inv X pins σ H s → t σ H Q → wpAny (model X.prog X.w) X.A (isTrue e X.env whole) (TP X pins σ Q) X.xe s
theorem PW.pt {X : Cx} {e : Expr} {t : TT} (h : PW X e t) : PT X e t := h _
/-- an argument list (no star), from the left -/
def PA (X : Cx) (es : List Expr) (t : TA) : Prop :=
  ∀ (pos : Pos) (pins : List (Addr × Obj)) (s : Shared) (σ : St) (H : Hp) (Q : List V → Hp → Prop), Inv X pins σ H s → t σ H Q → wpAny (model X.prog X.w) X.A (spliced (backTo pos (starEach es X.env))) (AP X pins σ Q) X.xe s
def PS (X : Cx) (st : Stmt) (t : TS) : Prop :=
  ∀ (pins : List (Addr × Obj)) (s : Shared) (σ : St) (H : Hp) (D : Ends), Inv X pins σ H s → t D σ H → wpAny (model X.prog X.w) X.A (exec st X.env) (SP X pins D) X.xe s
def PSs (X : Cx) (st : List Stmt) (t : TS) : Prop :=
  ∀ (pins : List (Addr × Obj)) (s : Shared) (σ : St) (H : Hp) (D : Ends), Inv X pins σ H s → t D σ H → wpAny (model X.prog X.w) X.A (execs st X.env) (SP X pins D) X.xe s
/-- weaken the end -/
theorem thn {α : Type} {t : Sem α} {Q Q' : α → Shared → Prop} {M : Model} {A : Around} {E : Value → Shared → Prop} {s : Shared} (h : wpAny M A t Q E s) (hQ : ∀ a s, Q a s → Q' a s) : wpAny M A t Q' E s := wpAny_mono h hQ fun _ _ x => x
end L2

namespace L2
open PySem PySem.Spec PyProof.Rows
section
variable {X : Cx}

/-- two expressions in a row -/
theorem bin {a b : Expr} {ta tb : TE} (ha : PE X a ta) (hb : PE X b tb) {pins : List (Addr × Obj)} {s : Shared} {σ : St} {H : Hp} {R : V → V → Hp → Prop} (I : Inv X pins σ H s) (h : ta σ H fun x H1 => tb σ H1 fun y H2 => R x y H2)
    {α : Type} {Q : α → Shared → Prop} {f : Value → Value → Sem α}
    (hf : ∀ v u s2 x y H2, Inv X pins σ H2 s2 → RelV x v → RelV y u → R x y H2 → wpAny (model X.prog X.w) X.A (f v u) Q X.xe s2) :
    wpAny (model X.prog X.w) X.A (eval a X.env) (fun v s₁ => wpAny (model X.prog X.w) X.A (eval b X.env) (fun u s₂ => wpAny (model X.prog X.w) X.A (f v u) Q X.xe s₂) X.xe s₁) X.xe s := by
  refine thn (ha pins s σ H _ I h) fun v s1 ⟨x, H1, I1, r1, q1⟩ => ?_
  refine thn (hb pins s1 σ H1 _ I1 q1) fun u s2 ⟨y, H2, I2, r2, q2⟩ => ?_
  exact hf v u s2 x y H2 I2 r1 r2 q2

/-! ### names and constants -/
inductive VarR (i : Nat) (σ : St) (H : Hp) (Q : VK) : Prop
  | mk (v : V) (e : σ[i]? = some (some v)) (q : Q v H) : VarR i σ H Q
def tVar (i : Nat) : TE := fun σ H Q => VarR i σ H Q
def tC (v : V) : TE := fun _ H Q => Q v H
theorem pe_var {i : Nat} {x : Str} {pos : Pos} (hN : X.N[i]? = some x) (hv : Vis X.env.scope x) (hd : (x == ("__debug__" : Str)) = false := by decide) (hcd : (x == ("__classdict__" : Str)) = false := by decide) : PE X (.Name x pos) (tVar i) := by
  intro pins s σ H Q I h
  obtain ⟨v, e, h⟩ := h
  obtain ⟨m, hn, hl⟩ := I.loc
  obtain ⟨u, r, l⟩ := hl i x v hN e hv
  have fin : EP X pins σ Q u s := ⟨v, H, I, r, h⟩
  rcases l with ⟨hk, hm⟩ | ⟨hk, c, hc, hcell⟩
  · exact wpAny_Name (wpAny_loadName_local I.ok.kind hk hn hm fin) hd
  · rcases hk with hk | hk
    · exact wpAny_Name (wpAny_loadName_cell I.ok.kind hk hc hcell fin) hd
    · exact wpAny_Name (wpAny_loadName_free I.ok.kind hk hc hcell fin hcd) hd
theorem pe_int {i j pos} : PE X (.Constant (.int i) j pos) (tC (.int i)) := fun _ _ _ H _ I h => wpAny_Constant_int ⟨.int i, H, I.tok _, ⟨_, rfl⟩, h⟩
theorem pe_bl {b j pos} : PE X (.Constant (.bool b) j pos) (tC (.bl b)) := fun _ _ _ H _ I h => Constant_bool ⟨.bl b, H, I, rfl, h⟩
theorem pe_non {j pos} : PE X (.Constant .none j pos) (tC .non) := fun _ _ _ H _ I h => Constant_none ⟨.non, H, I, rfl, h⟩
theorem pe_str {x j pos} : PE X (.Constant (.str x) j pos) (tC (.str x)) := fun _ _ _ H _ I h => Calls.Constant_str ⟨.str x, H, I.tok _, ⟨_, rfl⟩, h⟩

/-- a global name of the def -/
def Gl (X : Cx) (x : Str) : Prop := X.env.kindOf x = some .globalImplicit
theorem ld_glob {E : Value → Shared → Prop} {pins : List (Addr × Obj)} {s : Shared} {σ : St} {H : Hp} {x : Str} {u : Value} {pos : Pos} {Q : Value → Shared → Prop} (I : Inv X pins σ H s) (hg : Gl X x) (hm : X.mg x = some u) (h : Q u s)
    (hd : (x == ("__debug__" : Str)) = false := by decide) : wpAny (model X.prog X.w) X.A (eval (.Name x pos) X.env) Q E s :=
  Calls.Name_function_global I.ok.kind hg (Calls.loadGlobal_global (by rw [I.ok.glob]; exact I.mod.glob.keeps I.bk) hm h) hd
theorem ld_blt {E : Value → Shared → Prop} {pins : List (Addr × Obj)} {s : Shared} {σ : St} {H : Hp} {x : Str} {u : Value} {pos : Pos} {Q : Value → Shared → Prop} (I : Inv X pins σ H s) (hg : Gl X x) (hm : X.mg x = none) (hv : bootBuiltins x = some u) (h : Q u s)
    (hn : x ≠ "__name__" := by decide) (hd : (x == ("__debug__" : Str)) = false := by decide) : wpAny (model X.prog X.w) X.A (eval (.Name x pos) X.env) Q E s := by
  obtain ⟨mb, h1, h2⟩ := I.mod.blt
  exact Calls.Name_function_global I.ok.kind hg (Calls.loadGlobal_builtin (by rw [I.ok.glob]; exact I.mod.glob.keeps I.bk) hm (by rw [I.ok.blt]; exact h1.keeps I.bk) ((h2 x hn).trans hv) h) hd
/-- a module's constant, a class, a function, as a value -/
theorem pe_glob {x : Str} {v : V} {u : Value} {pos : Pos} (hg : Gl X x) (hm : X.mg x = some u) (r : RelV v u) (hd : (x == ("__debug__" : Str)) = false := by decide) : PE X (.Name x pos) (tC v) :=
  fun _ _ _ H _ I h => ld_glob I hg hm ⟨v, H, I, r, h⟩ hd
theorem pe_bltn {x : Str} {v : V} {u : Value} {pos : Pos} (hg : Gl X x) (hm : X.mg x = none) (hv : bootBuiltins x = some u) (r : RelV v u) (hn : x ≠ "__name__" := by decide) (hd : (x == ("__debug__" : Str)) = false := by decide) : PE X (.Name x pos) (tC v) :=
  fun _ _ _ H _ I h => ld_blt I hg hm hv ⟨v, H, I, r, h⟩ hn hd

/-! ### arithmetic -/
/-- two ints -/
def t2I (ta tb : TE) (k : Int → Int → Hp → Prop) : St → Hp → Prop := fun σ H => ta σ H fun x H1 => tb σ H1 fun y H2 => ∃ i j, x = .int i ∧ y = .int j ∧ k i j H2
def tAdd (ta tb : TE) : TE := fun σ H Q => t2I ta tb (fun i j H2 => Q (.int (i + j)) H2) σ H
def tSub (ta tb : TE) : TE := fun σ H Q => t2I ta tb (fun i j H2 => Q (.int (i - j)) H2) σ H
/-- the left factor below 2^64 -/
def tMul (ta tb : TE) : TE := fun σ H Q => t2I ta tb (fun i j H2 => (-(2 ^ 64) < i ∧ i < 2 ^ 64) ∧ Q (.int (i * j)) H2) σ H
variable {a b : Expr} {ta tb : TE} {pos : Pos}
theorem pe_add (ha : PE X a ta) (hb : PE X b tb) : PE X (.BinOp a .Add b pos) (tAdd ta tb) := by
  intro pins s σ H Q I h
  refine wpAny_BinOp (bin ha hb I h fun v u s2 x y H2 I2 rx ry q => ?_)
  obtain ⟨i, j, rfl, rfl, q⟩ := q
  obtain ⟨t, rfl⟩ := rx
  obtain ⟨t', rfl⟩ := ry
  exact add_int ⟨.int _, H2, I2.tok _, ⟨_, rfl⟩, q⟩
theorem pe_sub (ha : PE X a ta) (hb : PE X b tb) : PE X (.BinOp a .Sub b pos) (tSub ta tb) := by
  intro pins s σ H Q I h
  refine wpAny_BinOp (bin ha hb I h fun v u s2 x y H2 I2 rx ry q => ?_)
  obtain ⟨i, j, rfl, rfl, q⟩ := q
  obtain ⟨t, rfl⟩ := rx
  obtain ⟨t', rfl⟩ := ry
  exact sub_int ⟨.int _, H2, I2.tok _, ⟨_, rfl⟩, q⟩
theorem pe_mul (ha : PE X a ta) (hb : PE X b tb) : PE X (.BinOp a .Mult b pos) (tMul ta tb) := by
  intro pins s σ H Q I h
  refine wpAny_BinOp (bin ha hb I h fun v u s2 x y H2 I2 rx ry q => ?_)
  obtain ⟨i, j, rfl, rfl, ⟨q1, q2⟩, q⟩ := q
  obtain ⟨t, rfl⟩ := rx
  obtain ⟨t', rfl⟩ := ry
  exact mul_int ⟨.int _, H2, I2.tok _, ⟨_, rfl⟩, q⟩ (.of_left (intBits_le_64 q1 q2))

/-! ### comparisons -/
def PC (X : Cx) (op : CmpOp) (a b : Expr) (t : TE) : Prop :=
  ∀ (pins : List (Addr × Obj)) (s : Shared) (σ : St) (H : Hp) (Q : VK), Inv X pins σ H s → t σ H Q →
    wpAny (model X.prog X.w) X.A (eval a X.env) (fun v s₁ => wpAny (model X.prog X.w) X.A (eval b X.env) (fun u s₂ => wpAny (model X.prog X.w) X.A (compareOp op v u) (EP X pins σ Q) X.xe s₂) X.xe s₁) X.xe s
theorem nobehind (b : Expr) {op : CmpOp} (h : op ≠ .In) (h2 : op ≠ .NotIn) : behindInMarks op b = false := by
  have e1 : (op == CmpOp.In) = false := by cases op <;> first | rfl | exact absurd rfl h
  have e2 : (op == CmpOp.NotIn) = false := by cases op <;> first | rfl | exact absurd rfl h2
  cases b <;> simp [behindInMarks, e1, e2]
def tCmp (p : Int → Int → Bool) (ta tb : TE) : TE := fun σ H Q => t2I ta tb (fun i j H2 => Q (.bl (p i j)) H2) σ H
abbrev tLt : TE → TE → TE := tCmp fun i j => decide (i < j)
abbrev tLe : TE → TE → TE := tCmp fun i j => decide (i ≤ j)
abbrev tGt : TE → TE → TE := tCmp fun i j => decide (j < i)
abbrev tGe : TE → TE → TE := tCmp fun i j => decide (j ≤ i)
abbrev tEqI : TE → TE → TE := tCmp fun i j => decide (i = j)
abbrev tNeI : TE → TE → TE := tCmp fun i j => !decide (i = j)
/-- a comparison of two ints, by its rule -/
theorem pc_int {op : CmpOp} {p : Int → Int → Bool} (ha : PE X a ta) (hb : PE X b tb)
    (rule : ∀ (i j : Int) (t u : Tok) (Q : Value → Shared → Prop) (s : Shared), Q (.bool (p i j)) s → wpAny (model X.prog X.w) X.A (compareOp op (.int i t) (.int j u)) Q X.xe s) : PC X op a b (tCmp p ta tb) := by
  intro pins s σ H Q I h
  refine bin ha hb I h fun v u s2 x y H2 I2 rx ry q => ?_
  obtain ⟨i, j, rfl, rfl, q⟩ := q
  obtain ⟨t, rfl⟩ := rx
  obtain ⟨t', rfl⟩ := ry
  exact rule i j t t' _ s2 ⟨.bl _, H2, I2, rfl, q⟩
theorem pc_lt (ha : PE X a ta) (hb : PE X b tb) : PC X .Lt a b (tLt ta tb) := pc_int ha hb fun _ _ _ _ _ _ h => lt_int h
theorem pc_le (ha : PE X a ta) (hb : PE X b tb) : PC X .LtE a b (tLe ta tb) := pc_int ha hb fun _ _ _ _ _ _ h => le_int h
theorem pc_gt (ha : PE X a ta) (hb : PE X b tb) : PC X .Gt a b (tGt ta tb) := pc_int ha hb fun _ _ _ _ _ _ h => gt_int h
theorem pc_ge (ha : PE X a ta) (hb : PE X b tb) : PC X .GtE a b (tGe ta tb) := pc_int ha hb fun _ _ _ _ _ _ h => ge_int h
theorem pc_eqI (ha : PE X a ta) (hb : PE X b tb) : PC X .Eq a b (tEqI ta tb) := pc_int ha hb fun _ _ _ _ _ _ h => eq_int (by rw [Bool.beq_eq_decide_eq]; exact h)
theorem pc_neI (ha : PE X a ta) (hb : PE X b tb) : PC X .NotEq a b (tNeI ta tb) := pc_int ha hb fun _ _ _ _ _ _ h => ne_int (by rw [bne, Bool.beq_eq_decide_eq]; exact h)
/-- is None -/
def tIsN (ta : TE) : TE := fun σ H Q => ta σ H fun x H1 => Q (.bl (decide (x = .non))) H1
def tNotN (ta : TE) : TE := fun σ H Q => ta σ H fun x H1 => Q (.bl (!decide (x = .non))) H1
theorem RelV.none_iff {x : V} {v : Value} (r : RelV x v) : (v == Value.none) = decide (x = .non) := by
  cases x with
  | non => cases r; rfl
  | bl _ => cases r; rfl
  | int _ => obtain ⟨t, rfl⟩ := r; rfl
  | str _ => obtain ⟨t, rfl⟩ := r; rfl
  | byt _ => obtain ⟨t, rfl⟩ := r; rfl
  | flt _ => obtain ⟨t, rfl⟩ := r; rfl
  | ref _ => cases r; rfl
  | ty _ => cases r; rfl
theorem pc_isN {j pos'} (ha : PE X a ta) : PC X .Is a (.Constant .none j pos') (tIsN ta) := by
  intro pins s σ H Q I h
  refine thn (ha pins s σ H _ I h) fun v s1 ⟨x, H1, I1, r1, q1⟩ => ?_
  exact Constant_none (is_none_gen ⟨.bl _, H1, I1, by rw [r1.none_iff]; rfl, q1⟩)
theorem pc_notN {j pos'} (ha : PE X a ta) : PC X .IsNot a (.Constant .none j pos') (tNotN ta) := by
  intro pins s σ H Q I h
  refine thn (ha pins s σ H _ I h) fun v s1 ⟨x, H1, I1, r1, q1⟩ => ?_
  exact Constant_none (isnot_none_gen ⟨.bl _, H1, I1, by rw [r1.none_iff]; rfl, q1⟩)
/-- a comparison as a value, as a test -/
def tB (t : TE) : TT := fun σ H Q => t σ H fun x H1 => ∃ c, x = .bl c ∧ Q c H1
theorem pe_cmp {op : CmpOp} {t : TE} (h : PC X op a b t) (h1 : behindInMarks op b = false := by first | exact nobehind _ (by decide) (by decide) | rfl) : PE X (.Compare a [op] [b] pos) t := fun pins s σ H Q I hw => wpAny_Compare1 (h pins s σ H Q I hw) h1
theorem pt_cmp {op : CmpOp} {t : TE} (h : PC X op a b t) (h1 : behindInMarks op b = false := by first | exact nobehind _ (by decide) (by decide) | rfl) : PT X (.Compare a [op] [b] pos) (tB t) := by
  intro pins s σ H Q I hw
  refine wpAny_isTrue_Compare1 (thn (h pins s σ H _ I hw) fun v s1 h1 => thn h1 fun u s2 h2 => thn h2 fun c s3 ⟨x, H1, I1, r1, q1⟩ => ?_) h1
  obtain ⟨d, rfl, q⟩ := q1
  cases r1
  exact wpAny_truthy_bool ⟨H1, I1, q⟩
/-- an expression whose value is a bool, as a test -/
theorem pt_val {e : Expr} {t : TE} (h : PE X e t) (he : ∀ whole, isTrue e X.env whole = (do let v ← whole; standAt e.pos; holding [v] (truthy v)) := by intro _; rfl) : PT X e (tB t) := by
  intro pins s σ H Q I hw
  refine isTrue_plain (thn (h pins s σ H _ I hw) fun v s1 ⟨x, H1, I1, r1, q1⟩ => ?_) (he _)
  obtain ⟨d, rfl, q⟩ := q1
  cases r1
  exact wpAny_truthy_bool ⟨H1, I1, q⟩

/-! ### and, or, not -/
variable {tA tB' : TT} {rest : List Expr}
def tAnd (t u : TT) : TT := fun σ H Q => t σ H fun c H1 => if c = true then u σ H1 Q else Q false H1
def tOr (t u : TT) : TT := fun σ H Q => t σ H fun c H1 => if c = true then Q true H1 else u σ H1 Q
def tNot (t : TT) : TT := fun σ H Q => t σ H fun c H1 => Q (!c) H1
theorem pw_and1 (ha : PT X a tA) : PW X (.BoolOp .And [a] pos) tA := by
  intro wh pins s σ H Q I h
  refine isTrue_and (thn (ha pins s σ H Q I h) fun c s1 e => ?_)
  cases c with
  | true => exact isTrue_and_nil e
  | false => exact e
theorem pw_or1 (ha : PT X a tA) : PW X (.BoolOp .Or [a] pos) tA := by
  intro wh pins s σ H Q I h
  refine isTrue_or (thn (ha pins s σ H Q I h) fun c s1 e => ?_)
  cases c with
  | false => exact isTrue_or_nil e
  | true => exact e
theorem pw_and (ha : PT X a tA) (hb : PW X (.BoolOp .And (b :: rest) pos) tB') : PW X (.BoolOp .And (a :: b :: rest) pos) (tAnd tA tB') := by
  intro wh pins s σ H Q I h
  refine isTrue_and (thn (ha pins s σ H _ I h) fun c s1 ⟨H1, I1, q1⟩ => ?_)
  cases c with
  | true => exact hb wh pins s1 σ H1 Q I1 q1
  | false => exact ⟨H1, I1, q1⟩
theorem pw_or (ha : PT X a tA) (hb : PW X (.BoolOp .Or (b :: rest) pos) tB') : PW X (.BoolOp .Or (a :: b :: rest) pos) (tOr tA tB') := by
  intro wh pins s σ H Q I h
  refine isTrue_or (thn (ha pins s σ H _ I h) fun c s1 ⟨H1, I1, q1⟩ => ?_)
  cases c with
  | true => exact ⟨H1, I1, q1⟩
  | false => exact hb wh pins s1 σ H1 Q I1 q1
theorem pt_not (ha : PT X a tA) : PT X (.UnaryOp .Not a pos) (tNot tA) := by
  intro pins s σ H Q I h
  exact isTrue_not (ha pins s σ H (fun c H1 => Q (!c) H1) I h)
/-- .. as values (bools) -/
def tAndV (ta tb : TE) : TE := fun σ H Q => ta σ H fun x H1 => ∃ c, x = .bl c ∧ if c = true then tb σ H1 Q else Q (.bl false) H1
def tOrV (ta tb : TE) : TE := fun σ H Q => ta σ H fun x H1 => ∃ c, x = .bl c ∧ if c = true then Q (.bl true) H1 else tb σ H1 Q
def tNotV (ta : TE) : TE := fun σ H Q => ta σ H fun x H1 => ∃ c, x = .bl c ∧ Q (.bl (!c)) H1
theorem pe_one {op} {t : TE} (h : PE X a t) : PE X (.BoolOp op [a] pos) t := fun pins s σ H Q I hw => BoolOp_one (h pins s σ H Q I hw)
theorem pe_and (ha : PE X a ta) (hb : PE X (.BoolOp .And (b :: rest) pos) tb) : PE X (.BoolOp .And (a :: b :: rest) pos) (tAndV ta tb) := by
  intro pins s σ H Q I h
  refine BoolOp_and (thn (ha pins s σ H _ I h) fun v s1 ⟨x, H1, I1, r1, q1⟩ => ?_)
  obtain ⟨c, rfl, q1⟩ := q1
  cases r1
  refine wpAny_truthy_bool ?_
  cases c with
  | true => exact hb pins s1 σ H1 Q I1 q1
  | false => exact ⟨.bl false, H1, I1, rfl, q1⟩
theorem pe_or (ha : PE X a ta) (hb : PE X (.BoolOp .Or (b :: rest) pos) tb) : PE X (.BoolOp .Or (a :: b :: rest) pos) (tOrV ta tb) := by
  intro pins s σ H Q I h
  refine BoolOp_or (thn (ha pins s σ H _ I h) fun v s1 ⟨x, H1, I1, r1, q1⟩ => ?_)
  obtain ⟨c, rfl, q1⟩ := q1
  cases r1
  refine wpAny_truthy_bool ?_
  cases c with
  | false => exact hb pins s1 σ H1 Q I1 q1
  | true => exact ⟨.bl true, H1, I1, rfl, q1⟩
theorem pe_not (ha : PE X a ta) : PE X (.UnaryOp .Not a pos) (tNotV ta) := by
  intro pins s σ H Q I h
  refine UnaryOp_ (thn (ha pins s σ H _ I h) fun v s1 ⟨x, H1, I1, r1, q1⟩ => ?_)
  obtain ⟨c, rfl, q1⟩ := q1
  cases r1
  exact not_of (wpAny_truthy_bool ⟨.bl (!c), H1, I1, rfl, q1⟩)
/-- a if t else b -/
def tIf (t : TT) (ta tb : TE) : TE := fun σ H Q => t σ H fun c H1 => if c = true then ta σ H1 Q else tb σ H1 Q
theorem pe_ifExp {c : Expr} (hc : PT X c tA) (ha : PE X a ta) (hb : PE X b tb) : PE X (.IfExp c a b pos) (tIf tA ta tb) := by
  intro pins s σ H Q I h
  refine wpAny_IfExp (thn (hc pins s σ H _ I h) fun d s1 ⟨H1, I1, q1⟩ => ?_)
  cases d with
  | true => exact ha pins s1 σ H1 Q I1 q1
  | false => exact hb pins s1 σ H1 Q I1 q1
end
end L2

namespace L2
open PySem PySem.Spec PyProof.Rows

/-! ### a list, a tuple that is read: tracked, frozen, or an object of the module -/
def SqL (K : PySem.W.Frag) (H : Hp) (a : Addr) (xs : List V) : Prop :=
  Rd H a (.lst xs) ∨
    ∃ (o : Obj) (its : Array Value) (n : Nat), K.lookup a = some o ∧ o.cls = .type "list" ∧ o.dict = none ∧ o.data = .seq its n ∧ its.size ≤ sizeLine ∧ Vals xs its.toList
def SqT (K : PySem.W.Frag) (H : Hp) (a : Addr) (xs : List V) : Prop :=
  Rd H a (.tup xs) ∨
    ∃ (o : Obj) (its : Array Value) (n : Nat), K.lookup a = some o ∧ o.cls = .type "tuple" ∧ o.data = .seq its n ∧ its.size ≤ sizeLine ∧ Vals xs its.toList
def absV : Value → Option V
  | .none => some .non
  | .bool b => some (.bl b)
  | .int i _ => some (.int i)
  | .str x _ => some (.str x)
  | .bytes b _ => some (.byt b)
  | .float b _ => some (.flt b)
  | .ref a => some (.ref a)
  | .type n => some (.ty n)
  | _ => none
theorem RelV.abs {x : V} {u : Value} (r : RelV x u) : absV u = some x := by
  cases x with
  | non => cases r; rfl
  | bl _ => cases r; rfl
  | int _ => obtain ⟨t, rfl⟩ := r; rfl
  | str _ => obtain ⟨t, rfl⟩ := r; rfl
  | byt _ => obtain ⟨t, rfl⟩ := r; rfl
  | flt _ => obtain ⟨t, rfl⟩ := r; rfl
  | ref _ => cases r; rfl
  | ty _ => cases r; rfl
theorem RelV.inj {x y : V} {u : Value} (r : RelV x u) (q : RelV y u) : x = y := Option.some.inj (r.abs.symm.trans q.abs)
theorem Vals.inj : ∀ {xs ys : List V} {us : List Value}, Vals xs us → Vals ys us → xs = ys
  | _, _, _, .nil, .nil => rfl
  | _, _, _, .cons r t, .cons r' t' => by rw [r.inj r', Vals.inj t t']
section
variable {X : Cx} {pins : List (Addr × Obj)} {σ : St} {H : Hp} {s : Shared} {a : Addr} {xs ys : List V}
theorem SqL.of {K : PySem.W.Frag} (h : H a = some (.lst xs)) : SqL K H a xs := .inl (.inl h)
theorem SqT.of {K : PySem.W.Frag} (h : H a = some (.tup xs)) : SqT K H a xs := .inl (.inl h)
theorem Inv.list (I : Inv X pins σ H s) (h : SqL X.K H a xs) : ∃ its : List Value, Vals xs its ∧ PlainL s.heap a its.toArray ∧ xs.length ≤ sizeLine := by
  rcases h with h | ⟨o, its, n, hk, hc, hd, hs, hz, r⟩
  · obtain ⟨z, its, n, r, e⟩ := h.ok I.hok
    exact ⟨its, r, ⟨_, n, e, rfl, rfl, rfl⟩, z⟩
  · refine ⟨its.toList, r, ⟨o, n, I.kIn a o hk, hc, hd, by simpa using hs⟩, ?_⟩
    have e := r.length
    simp only [Array.length_toList] at e
    omega
theorem Inv.tuple (I : Inv X pins σ H s) (h : SqT X.K H a xs) : ∃ its : List Value, Vals xs its ∧ IsTup s.heap a its.toArray ∧ xs.length ≤ sizeLine := by
  rcases h with h | ⟨o, its, n, hk, hc, hs, hz, r⟩
  · obtain ⟨z, its, r, p⟩ := h.ok I.hok
    exact ⟨its, r, p, z⟩
  · refine ⟨its.toList, r, ⟨o, I.kIn a o hk, hc, n, by simpa using hs⟩, ?_⟩
    have e := r.length
    simp only [Array.length_toList] at e
    omega
theorem Inv.list_inj (I : Inv X pins σ H s) (h : SqL X.K H a xs) (h' : SqL X.K H a ys) : xs = ys := by
  obtain ⟨its, r, ⟨o, n, e, _, _, d⟩, _⟩ := I.list h
  obtain ⟨its', r', ⟨o', n', e', _, _, d'⟩, _⟩ := I.list h'
  rw [e] at e'; cases e'
  rw [d] at d'
  injection d' with d1 _
  have : its = its' := by simpa using congrArg Array.toList d1
  subst this
  exact r.inj r'
theorem Inv.tuple_inj (I : Inv X pins σ H s) (h : SqT X.K H a xs) (h' : SqT X.K H a ys) : xs = ys := by
  obtain ⟨its, r, ⟨o, e, _, n, d⟩, _⟩ := I.tuple h
  obtain ⟨its', r', ⟨o', e', _, n', d'⟩, _⟩ := I.tuple h'
  rw [e] at e'; cases e'
  rw [d] at d'
  injection d' with d1 _
  have : its = its' := by simpa using congrArg Array.toList d1
  subst this
  exact r.inj r'
end

/-! ### another wish about exceptions -/
abbrev Cx.wish (X : Cx) (E : Value → Shared → Prop) : Cx := { X with xe := E }
/-- no exception leaves -/
abbrev Cx.nox (X : Cx) : Cx := X.wish fun _ _ => False
theorem Cx.Ok.wish {X : Cx} (ok : X.Ok) (E : Value → Shared → Prop) : (X.wish E).Ok :=
  ⟨ok.mod, ok.kind, ok.glob, ok.blt, ok.above, ok.inj, ok.has, ok.cab, ok.hd, ok.frames, ok.stk, ok.exf, ok.bs, ok.bsz, ok.noex, ok.exfs, ok.funs, ok.frf⟩
theorem Cx.Ok.unwish {X : Cx} {E : Value → Shared → Prop} (ok : (X.wish E).Ok) : X.Ok :=
  ⟨ok.mod, ok.kind, ok.glob, ok.blt, ok.above, ok.inj, ok.has, ok.cab, ok.hd, ok.frames, ok.stk, ok.exf, ok.bs, ok.bsz, ok.noex, ok.exfs, ok.funs, ok.frf⟩
section
variable {X : Cx} {pins : List (Addr × Obj)} {σ : St} {H : Hp} {s : Shared} {E : Value → Shared → Prop}
theorem Inv.wish (I : Inv X pins σ H s) (E : Value → Shared → Prop) : Inv (X.wish E) pins σ H s := ⟨I.ok.wish E, I.os, I.bare, I.base, I.loc, I.cell, I.free, I.freeC, I.pin, I.hok, I.len⟩
theorem Inv.unwish (I : Inv (X.wish E) pins σ H s) : Inv X pins σ H s := ⟨I.ok.unwish, I.os, I.bare, I.base, I.loc, I.cell, I.free, I.freeC, I.pin, I.hok, I.len⟩
theorem SP.unwish {D : Ends} {f : Flow} {s' : Shared} (h : SP (X.wish E) pins D f s') : SP X pins D f s' := by
  cases f with
  | next => obtain ⟨σ', H', I, q⟩ := h; exact ⟨σ', H', I.unwish, q⟩
  | brk => obtain ⟨σ', H', I, q⟩ := h; exact ⟨σ', H', I.unwish, q⟩
  | cont => obtain ⟨σ', H', I, q⟩ := h; exact ⟨σ', H', I.unwish, q⟩
  | ret u => obtain ⟨v, σ', H', I, r, q⟩ := h; exact ⟨v, σ', H', I.unwish, r, q⟩
theorem PE.nox {e : Expr} {t : TE} (h : PE X.nox e t) : PE X e t := fun pins s σ H Q I hw =>
  wpAny_mono (h pins s σ H Q (I.wish _) hw) (fun _ _ ⟨v, H', I', r, q⟩ => ⟨v, H', I'.unwish, r, q⟩) fun _ _ z => False.elim z
theorem PT.nox {e : Expr} {t : TT} (h : PT X.nox e t) : PT X e t := fun pins s σ H Q I hw =>
  wpAny_mono (h pins s σ H Q (I.wish _) hw) (fun _ _ ⟨H', I', q⟩ => ⟨H', I'.unwish, q⟩) fun _ _ z => False.elim z
theorem PSs.nox {st : List Stmt} {t : TS} (h : PSs X.nox st t) : PSs X st t := fun pins s σ H D I hw =>
  wpAny_mono (h pins s σ H D (I.wish _) hw) (fun _ _ q => q.unwish) fun _ _ z => False.elim z
end

/-! ### blocks and small statements -/
section
variable {X : Cx} {st : Stmt} {rest : List Stmt} {t u : TS} {e : Expr} {te : TE} {pos : Pos}
def tNext : TS := fun D σ H => D.nx σ H
def tSeq (t u : TS) : TS := fun D σ H => t { D with nx := u D } σ H
theorem pss_nil : PSs X [] tNext := fun _ _ σ H _ I h => wpAny_execs_nil ⟨σ, H, I, h⟩
theorem pss_cons (h1 : PS X st t) (h2 : PSs X rest u) : PSs X (st :: rest) (tSeq t u) := by
  intro pins s σ H D I h
  refine wpAny_execs_cons (thn (h1 pins s σ H { D with nx := u D } I h) fun f s1 q => ?_)
  cases f with
  | next =>
    obtain ⟨σ', H', I', q⟩ := q
    exact h2 pins s1 σ' H' D I' q
  | ret v => exact q
  | brk => exact q
  | cont => exact q
theorem pss_one (h1 : PS X st t) : PSs X [st] t := by
  intro pins s σ H D I h
  refine wpAny_execs_cons (thn (h1 pins s σ H D I h) fun f s1 q => ?_)
  cases f with
  | next => exact wpAny_execs_nil q
  | ret v => exact q
  | brk => exact q
  | cont => exact q
def tBreak : TS := fun D σ H => D.bk σ H
def tCont : TS := fun D σ H => D.ct σ H
theorem ps_pass : PS X (.Pass pos) tNext := fun _ _ σ H _ I h => wpAny_Pass ⟨σ, H, I, h⟩
theorem ps_break : PS X (.Break pos) tBreak := fun _ _ σ H _ I h => wpAny_Break ⟨σ, H, I, h⟩
theorem ps_continue : PS X (.Continue pos) tCont := fun _ _ σ H _ I h => wpAny_Continue ⟨σ, H, I, h⟩
/-- in a def's body nothing is shown -/
theorem Inv.quiet {pins : List (Addr × Obj)} {σ : St} {H : Hp} {s : Shared} (I : Inv X pins σ H s) : interactive X.env = false := by simp [interactive, I.ok.kind]
/-- a docstring -/
theorem ps_doc {x j pos pos'} : PS X (.Expr (.Constant (.str x) j pos) pos') tNext := fun _ s σ H _ I h => wpAny_Expr (Calls.Constant_str (show SP X _ _ .next { s with toks := s.toks + 1 } from ⟨σ, H, I.tok _, h⟩)) I.quiet
/-- an expression whose value is dropped -/
def tDrop (te : TE) : TS := fun D σ H => te σ H fun _ H1 => D.nx σ H1
theorem ps_expr (he : PE X e te) (hs : swapsWith e none pos.line X.env = pure false := by rfl) : PS X (.Expr e pos) (tDrop te) := by
  intro pins s σ H D I h
  exact wpAny_Expr_any (thn (he pins s σ H _ I h) fun v s1 ⟨x, H1, I1, r1, q1⟩ => ⟨σ, H1, I1, q1⟩) I.quiet hs
def tRet (te : TE) : TS := fun D σ H => te σ H D.rt
theorem ps_ret (he : PE X e te) : PS X (.Return (some e) pos) (tRet te) := by
  intro pins s σ H D I h
  exact wpAny_Return_some (thn (he pins s σ H _ I h) fun v s1 ⟨x, H1, I1, r1, q1⟩ => ⟨x, σ, H1, I1, r1, q1⟩)
def tRetN : TS := fun D _ H => D.rt .non H
theorem ps_retN : PS X (.Return none pos) tRetN := fun _ _ σ H _ I h => wpAny_Return_none ⟨.non, σ, H, I, rfl, h⟩
def tIfS (c : TT) (t u : TS) : TS := fun D σ H => c σ H fun b H1 => if b = true then t D σ H1 else u D σ H1
theorem ps_if {c : Expr} {a b : List Stmt} {tc : TT} (hc : PT X c tc) (ha : PSs X a t) (hb : PSs X b u) : PS X (.If c a b pos) (tIfS tc t u) := by
  intro pins s σ H D I h
  refine wpAny_If (thn (hc pins s σ H _ I h) fun d s1 ⟨H1, I1, q1⟩ => ?_)
  cases d with
  | true => exact ha pins s1 σ H1 D I1 q1
  | false => exact hb pins s1 σ H1 D I1 q1
/-- code that the proof never comes to -/
def tNever : TS := fun _ _ _ => False
theorem ps_never : PS X st tNever := fun _ _ _ _ _ _ h => h.elim
theorem pss_never {sts : List Stmt} : PSs X sts tNever := fun _ _ _ _ _ _ h => h.elim
end

/-! ### targets -/
abbrev TG := V → St → Hp → (St → Hp → Prop) → Prop
abbrev TGs := List V → St → Hp → (St → Hp → Prop) → Prop
def PG (X : Cx) (target : Expr) (t : TG) : Prop :=
  ∀ (pins : List (Addr × Obj)) (s : Shared) (σ : St) (H : Hp) (v : V) (u : Value) (Q : St → Hp → Prop), Inv X pins σ H s → RelV v u → t v σ H Q →
    wpAny (model X.prog X.w) X.A (assign target X.env u) (fun _ s' => ∃ σ' H', Inv X pins σ' H' s' ∧ Q σ' H') X.xe s
/-- several targets, one after another -/
def PGs (X : Cx) (ts : List Expr) (t : TGs) : Prop :=
  ∀ (pins : List (Addr × Obj)) (s : Shared) (σ : St) (H : Hp) (vs : List V) (us : List Value) (Q : St → Hp → Prop), Inv X pins σ H s → Vals vs us → t vs σ H Q →
    wpAny (model X.prog X.w) X.A (assignInOrder ((assignEach ts X.env).map (·.2)) us) (fun _ s' => ∃ σ' H', Inv X pins σ' H' s' ∧ Q σ' H') X.xe s
/-- o[i] = v, by values -/
abbrev TSet := V → V → V → Hp → (Hp → Prop) → Prop
def PSet (X : Cx) (t : TSet) : Prop :=
  ∀ (pins : List (Addr × Obj)) (s : Shared) (σ : St) (H : Hp) (o i v : V) (ov iv u : Value) (Q : Hp → Prop), Inv X pins σ H s → RelV o ov → RelV i iv → RelV v u → t o i v H Q →
    wpAny (model X.prog X.w) X.A (setItem ov iv u) (fun _ s' => ∃ H', Inv X pins σ H' s' ∧ Q H') X.xe s
/-- a op= b, by values -/
abbrev TIp := V → V → Hp → VK → Prop
def PIp (X : Cx) (op : Operator) (t : TIp) : Prop :=
  ∀ (pins : List (Addr × Obj)) (s : Shared) (σ : St) (H : Hp) (x y : V) (v u : Value) (Q : VK), Inv X pins σ H s → RelV x v → RelV y u → t x y H Q →
    wpAny (model X.prog X.w) X.A (inplaceOp op v u) (EP X pins σ Q) X.xe s
section
variable {X : Cx} {pos : Pos}
def gName (i : Nat) : TG := fun v σ H Q => Q (σ.set i (some v)) H
theorem pg_name {i : Nat} {x : Str} (hN : X.N.Nodup) (hi : X.N[i]? = some x) (hx : Loc X.env.scope x) (hf : X.fn x = true ∨ X.env.scope.names.lookup x = some .local := by first | exact .inl rfl | exact .inr rfl | assumption) : PG X (.Name x pos) (gName i) := by
  intro pins s σ H v u Q I r h
  exact wpAny_assign_Name (store_ok I hN hi hx r (fun s' I' => ⟨_, H, I', h⟩) hf)
def gNil : TGs := fun vs σ H Q => vs = [] ∧ Q σ H
def gCons (t : TG) (u : TGs) : TGs := fun vs σ H Q => ∃ v r, vs = v :: r ∧ t v σ H fun σ' H' => u r σ' H' Q
theorem pgs_nil : PGs X [] gNil := by
  intro pins s σ H vs us Q I r h
  obtain ⟨e, h⟩ := h
  subst e
  cases r
  exact assignInOrder_nil ⟨σ, H, I, h⟩
theorem pgs_cons {e : Expr} {es : List Expr} {t : TG} {u : TGs} (h1 : PG X e t) (h2 : PGs X es u)
    (hs : (assignEach (e :: es) X.env).map (·.2) = assign e X.env :: (assignEach es X.env).map (·.2) := by rfl) : PGs X (e :: es) (gCons t u) := by
  intro pins s σ H vs us Q I r h
  obtain ⟨v, vr, e1, h⟩ := h
  subst e1
  cases r with
  | cons r rr =>
    rw [hs]
    refine assignInOrder_cons (thn (h1 pins s σ H _ _ _ I r h) fun _ s1 ⟨σ1, H1, I1, q1⟩ => ?_)
    exact h2 pins s1 σ1 H1 _ _ Q I1 rr q1
/-- (a, b, ..) = a tuple of that length -/
def gTup (K : PySem.W.Frag) (n : Nat) (t : TGs) : TG := fun v σ H Q => ∃ a xs, v = .ref a ∧ SqT K H a xs ∧ xs.length = n ∧ t xs σ H Q
theorem pg_tup {es : List Expr} {k : Nat} {t : TGs} {n : Nat} (hc : X.calm = true) (h : PGs X es t)
    (hn : (assignEach es X.env).length = n := by rfl) (hst : (assignEach es X.env).findIdx? (·.1) = none := by rfl) : PG X (.Tuple es k pos) (gTup X.K n t) := by
  intro pins s σ H v u Q I r hw
  obtain ⟨a, xs, e1, hq, hl, hw⟩ := hw
  subst e1
  cases r
  obtain ⟨its, rv, ht, hz⟩ := I.tuple hq
  refine assign_Tuple_tuple (I.ok.hd hc) ht (by simp [hn, ← hl, rv.length]) hst fun h' hx => ?_
  have I1 : Inv X pins σ H { s with heap := h' } := I.kept (t' := s.toks) fun b o e => hx b o (Nat.ne_of_lt (Heap.lt_size e)) e
  exact h pins _ σ H xs _ Q I1 (by simpa using rv) hw
/-- o[i] = .. -/
def gSub (to ti : TE) (t : TSet) : TG := fun v σ H Q => to σ H fun o H1 => ti σ H1 fun i H2 => t o i v H2 fun H3 => Q σ H3
theorem pg_sub {o i : Expr} {to ti : TE} {t : TSet} (ho : PE X o to) (hi : PE X i ti) (hs : PSet X t)
    (ha : ∀ v, assign (.Subscript o i pos) X.env v = (do
      let ov ← holding [v] (eval o X.env)
      let iv ← holding [v, ov] (eval i X.env)
      standAt pos
      holding [v, ov, iv] (setItem ov iv v)
      release [v, ov, iv] []) := by intro _; rfl) : PG X (.Subscript o i pos) (gSub to ti t) := by
  intro pins s σ H v u Q I r h
  rw [ha]
  refine wpAny_bind (wpAny_holding (thn (ho pins s σ H _ I h) fun ov s1 ⟨x, H1, I1, r1, q1⟩ => ?_))
  refine wpAny_bind (wpAny_holding (thn (hi pins s1 σ H1 _ I1 q1) fun iv s2 ⟨y, H2, I2, r2, q2⟩ => ?_))
  refine wpAny_bind (wpAny_standAt (wpAny_bind (wpAny_holding (thn (hs pins s2 σ H2 x y v ov iv u _ I2 r1 r2 r q2) fun _ s3 ⟨H3, I3, q3⟩ => ?_))))
  exact wpAny_release ⟨σ, H3, I3, q3⟩
/-- target = value -/
def tAsg (te : TE) (g : TG) : TS := fun D σ H => te σ H fun x H1 => g x σ H1 D.nx
theorem ps_asg {tg e : Expr} {te : TE} {g : TG} (he : PE X e te) (hg : PG X tg g) (hs : swapsWithSole [tg] e pos.line X.env = pure false := by rfl) (hw : swappedStores [tg] e X.env = pure none := by rfl)
    (h1 : (assignEach [tg] X.env).map (·.2) = [assign tg X.env] := by rfl) : PS X (.Assign [tg] e pos) (tAsg te g) := by
  intro pins s σ H D I h
  refine wpAny_Assign_stores (thn (he pins s σ H _ I h) fun v s1 ⟨x, H1, I1, r1, q1⟩ => ?_) hs hw
  rw [h1]
  exact thn (hg pins s1 σ H1 x v _ I1 r1 q1) fun _ s2 q => q
/-- name = value -/
theorem ps_set {i : Nat} {x : Str} {e : Expr} {te : TE} {pos' : Pos} (hN : X.N.Nodup) (hi : X.N[i]? = some x) (hx : Loc X.env.scope x) (he : PE X e te) (hs : swapsWith e (some (.Name x pos')) pos.line X.env = pure false := by rfl) (hf : X.fn x = true ∨ X.env.scope.names.lookup x = some .local := by first | exact .inl rfl | exact .inr rfl | assumption) :
    PS X (.Assign [.Name x pos'] e pos) (tAsg te (gName i)) := by
  intro pins s σ H D I h
  refine wpAny_Assign_Name (thn (he pins s σ H _ I h) fun v s1 ⟨y, H1, I1, r1, q1⟩ => ?_) hs
  exact store_ok I1 hN hi hx r1 (fun s2 I2 => ⟨_, H1, I2, q1⟩) hf
/-- a, b = x, y with plain local names: stored from the right; the pair itself is not tracked (the opening rows as in PyProof/Rows/TupAssign.lean:23) -/
def tPar (i j : Nat) (ta : TA) : TS := fun D σ H => ta σ H fun vs H1 => ∃ v w, vs = [v, w] ∧ D.nx ((σ.set i (some v)).set j (some w)) H1
theorem ps_par {i j : Nat} {x y : Str} {a b : Expr} {ta : TA} {px py pt : Pos} {kt k2 pt2} (hc : X.calm = true) (hN : X.N.Nodup) (hi : X.N[i]? = some x) (hj : X.N[j]? = some y) (hij : i ≠ j)
    (hx : X.env.scope.names.lookup x = some .local) (hy : X.env.scope.names.lookup y = some .local) (ha : PA X [a, b] ta)
    (hw : swappedStores [.Tuple [.Name x px, .Name y py] kt pt] (.Tuple [a, b] k2 pt2) X.env = pure (some [x, y]))
    (hs : swapsWithSole [.Tuple [.Name x px, .Name y py] kt pt] (.Tuple [a, b] k2 pt2) pos.line X.env = pure false := by rfl) :
    PS X (.Assign [.Tuple [.Name x px, .Name y py] kt pt] (.Tuple [a, b] k2 pt2) pos) (tPar i j ta) := by
  intro pins s σ H D I h
  rw [exec_Assign_arm]
  refine wpAny_bind (wpAny_standAt ?_)
  rw [hs]
  refine wpAny_bind (wpAny_pure ?_)
  rw [if_neg (by decide)]
  refine wpAny_bind (Tuple_ (thn (ha _ pins s σ H _ I h) fun us s1 ⟨vs, H1, I1, r1, q1⟩ => ?_))
  obtain ⟨v, w, e1, q1⟩ := q1
  subst e1
  obtain ⟨u1, u2, rfl, rv, rw'⟩ : ∃ u1 u2, us = [u1, u2] ∧ RelV v u1 ∧ RelV w u2 := by
    cases r1 with
    | cons p q =>
      cases q with
      | cons p' q' =>
        cases q'
        exact ⟨_, _, rfl, p, p'⟩
  refine wpAny_newObj_type ?_ (by show 2 ≤ sizeLine; decide)
  have I2 : Inv X pins σ H1 { s1 with heap := s1.heap.push { cls := .type "tuple", data := .seq [u1, u2].toArray } } := I1.kept (t' := s1.toks) fun b o e => Heap.get?_push_of_some _ e
  rw [hw]
  refine wpAny_bind (wpAny_pure ?_)
  show wpAny (model X.prog X.w) X.A (do rule "assign.swapped-stores"; let items ← unpackItems (.ref s1.heap.objs.size) 2 none; assignInOrder [fun v => bindName X.env y v, fun v => bindName X.env x v] items.reverse; pure Flow.next) _ _ _
  refine wpAny_bind (wpAny_rule (wpAny_bind (unpackItems_tuple (items := #[u1, u2]) (I.ok.hd hc) (IsTup.new s1.heap _) fun h' hx' => ?_)))
  have I3 := I2.kept (h' := h') (t' := s1.toks) fun b o e => hx' b o (Nat.ne_of_lt (Heap.lt_size e)) e
  show wpAny _ _ (assignInOrder [fun v => bindName X.env y v, fun v => bindName X.env x v] [u2, u1] >>= fun _ => pure Flow.next) _ _ _
  refine wpAny_bind (assignInOrder_cons (wpAny_bindName (store_ok I3 hN hj (.inl hy) rw' (fun s2 I4 => ?_) (.inr hy))))
  refine assignInOrder_cons (wpAny_bindName (store_ok I4 hN hi (.inl hx) rv (fun s3 I5 => assignInOrder_nil (wpAny_pure ?_)) (.inr hx)))
  rw [List.set_comm _ _ (Ne.symm hij)] at I5
  exact ⟨_, H1, I5, q1⟩
/-- name op= e -/
def tAug (i : Nat) (te : TE) (ti : TIp) : TS := fun D σ H => ∃ x, σ[i]? = some (some x) ∧ te σ H fun y H1 => ti x y H1 fun z H2 => D.nx (σ.set i (some z)) H2
theorem ps_aug {i : Nat} {x : Str} {e : Expr} {te : TE} {op : Operator} {ti : TIp} {pos' : Pos} (hN : X.N.Nodup) (hi : X.N[i]? = some x) (hx : Loc X.env.scope x) (he : PE X e te) (ho : PIp X op ti) (hf : X.fn x = true ∨ X.env.scope.names.lookup x = some .local := by first | exact .inl rfl | exact .inr rfl | assumption) :
    PS X (.AugAssign (.Name x pos') op e pos) (tAug i te ti) := by
  intro pins s σ H D I h
  obtain ⟨v, e1, h⟩ := h
  obtain ⟨m, hn, hl⟩ := I.loc
  have vis : Vis X.env.scope x := by rcases hx with k | k; exact .inl k; exact .inr (.inl k)
  obtain ⟨u, r, l⟩ := hl i x v hi e1 vis
  refine wpAny_AugAssign_Name ?_
  have go : wpAny (model X.prog X.w) X.A (eval e X.env) (fun w s₂ => wpAny (model X.prog X.w) X.A (inplaceOp op u w) (fun r s₃ => wpAny (model X.prog X.w) X.A (storeName X.env x r) (fun _ => SP X pins D .next) X.xe s₃) X.xe s₂) X.xe s := by
    refine thn (he pins s σ H _ I h) fun w s1 ⟨y, H1, I1, r1, q1⟩ => ?_
    refine thn (ho pins s1 σ H1 v y u w _ I1 r r1 q1) fun z s2 ⟨zv, H2, I2, r2, q2⟩ => ?_
    exact store_ok I2 hN hi hx r2 (fun s3 I3 => ⟨_, H2, I3, q2⟩) hf
  rcases l with ⟨hk, hm⟩ | ⟨hk, c, hc, hcell⟩
  · exact wpAny_loadName_local I.ok.kind hk hn hm go
  · rcases hk with hk | hk
    · exact wpAny_loadName_cell I.ok.kind hk hc hcell go
    · rcases hx with k | k
      · have : X.env.scope.names.lookup x = some .free := hk
        rw [k] at this; cases this
      · have : X.env.scope.names.lookup x = some .free := hk
        rw [k] at this; cases this
/-- o[i] op= e -/
def tAugS (to ti te : TE) (tget : V → V → Hp → VK → Prop) (tip : TIp) (tset : TSet) : TS := fun D σ H => to σ H fun o H1 => ti σ H1 fun i H2 => tget o i H2 fun x H3 => te σ H3 fun y H4 => tip x y H4 fun z H5 => tset o i z H5 fun H6 => D.nx σ H6
/-- o[i], by values -/
def PGet (X : Cx) (t : V → V → Hp → VK → Prop) : Prop :=
  ∀ (pins : List (Addr × Obj)) (s : Shared) (σ : St) (H : Hp) (o i : V) (ov iv : Value) (Q : VK), Inv X pins σ H s → RelV o ov → RelV i iv → t o i H Q →
    wpAny (model X.prog X.w) X.A (getItem ov iv) (EP X pins σ Q) X.xe s
theorem ps_augS {o i e : Expr} {to ti te : TE} {tget : V → V → Hp → VK → Prop} {tip : TIp} {tset : TSet} {op : Operator} {tpos : Pos} (ho : PE X o to) (hi : PE X i ti) (hg : PGet X tget) (he : PE X e te) (hp : PIp X op tip) (hs : PSet X tset)
    (ha : ∀ ov iv new, augStore i ov iv new = (do holding [new, ov, iv] (setItem ov iv new); release [new, ov, iv] []; pure .next) := by intros; rfl) : PS X (.AugAssign (.Subscript o i tpos) op e pos) (tAugS to ti te tget tip tset) := by
  intro pins s σ H D I h
  refine wpAny_AugAssign_SubscriptAny (thn (ho pins s σ H _ I h) fun ov s1 ⟨x1, H1, I1, r1, q1⟩ => ?_) ha
  refine thn (hi pins s1 σ H1 _ I1 q1) fun iv s2 ⟨x2, H2, I2, r2, q2⟩ => ?_
  refine thn (hg pins s2 σ H2 x1 x2 ov iv _ I2 r1 r2 q2) fun old s3 ⟨x3, H3, I3, r3, q3⟩ => ?_
  refine thn (he pins s3 σ H3 _ I3 q3) fun v s4 ⟨x4, H4, I4, r4, q4⟩ => ?_
  refine thn (hp pins s4 σ H4 x3 x4 old v _ I4 r3 r4 q4) fun new s5 ⟨x5, H5, I5, r5, q5⟩ => ?_
  exact thn (hs pins s5 σ H5 x1 x2 x5 ov iv new _ I5 r1 r2 r5 q5) fun _ s6 ⟨H6, I6, q6⟩ => ⟨σ, H6, I6, q6⟩
/-- ints -/
def ipI (f : Int → Int → Int) : TIp := fun x y H Q => ∃ i j, x = .int i ∧ y = .int j ∧ Q (.int (f i j)) H
theorem ip_add : PIp X .Add (ipI fun i j => i + j) := by
  intro pins s σ H x y v u Q I r1 r2 h
  obtain ⟨i, j, e1, e2, q⟩ := h
  subst e1; subst e2
  obtain ⟨t, rfl⟩ := r1
  obtain ⟨t', rfl⟩ := r2
  exact iadd_int ⟨.int _, H, I.tok _, ⟨_, rfl⟩, q⟩
theorem ip_sub : PIp X .Sub (ipI fun i j => i - j) := by
  intro pins s σ H x y v u Q I r1 r2 h
  obtain ⟨i, j, e1, e2, q⟩ := h
  subst e1; subst e2
  obtain ⟨t, rfl⟩ := r1
  obtain ⟨t', rfl⟩ := r2
  exact isub_int ⟨.int _, H, I.tok _, ⟨_, rfl⟩, q⟩
end

/-! ### while -/
section
variable {X : Cx} {pos : Pos}
/-- the invariant W with its measure -/
def tWhile (c : TT) (tb : TS) : TS := fun D σ H => ∃ W : Nat → St → Hp → Prop, (∃ m, W m σ H) ∧ ∀ m σ H, W m σ H →
  c σ H fun b H1 => if b = true then ∃ N : St → Hp → Prop, (∀ σ' H', N σ' H' → ∃ m', m' < m ∧ W m' σ' H') ∧ tb { D with nx := N, ct := N, bk := D.nx } σ H1 else D.nx σ H1
theorem ps_while {c : Expr} {body : List Stmt} {tc : TT} {tb : TS} (hp : PassesOwn (model X.prog X.w) X.A X.env X.xe) (hc : PT X c tc) (hb : PSs X body tb) : PS X (.While c body [] pos) (tWhile tc tb) := by
  intro pins s σ H D I h
  obtain ⟨W, ⟨m0, w0⟩, turn⟩ := h
  refine wpAny_While (codeAny_whileLoop (fun n s' => ∃ σ' H', Inv X pins σ' H' s' ∧ W n σ' H') ?_ m0 ⟨σ, H, I, w0⟩)
  rintro n s1 ⟨σ1, H1, I1, w1⟩
  refine wpAny_passesOwn hp (thn (hc pins s1 σ1 H1 _ I1 (turn n σ1 H1 w1)) fun b s2 ⟨H2, I2, q2⟩ => ?_)
  cases b with
  | true =>
    obtain ⟨N, hN, q2⟩ := q2
    rw [if_pos rfl]
    refine wpAny_passesOwn hp (thn (hb pins s2 σ1 H2 _ I2 q2) fun f s3 q3 => ?_)
    cases f with
    | next =>
      obtain ⟨σ3, H3, I3, n3⟩ := q3
      obtain ⟨m', hm, w3⟩ := hN σ3 H3 n3
      exact ⟨m', hm, σ3, H3, I3, w3⟩
    | cont =>
      obtain ⟨σ3, H3, I3, n3⟩ := q3
      obtain ⟨m', hm, w3⟩ := hN σ3 H3 n3
      exact ⟨m', hm, σ3, H3, I3, w3⟩
    | brk => exact q3
    | ret v => exact q3
  | false =>
    rw [if_neg Bool.false_ne_true]
    exact wpAny_execs_nil ⟨σ1, H2, I2, q2⟩
end

/-! ### what a loop or a comprehension walks -/
/-- at turn i: it yields x (the heap may grow), or it stops -/
structure It where
  go : Nat → Hp → Prop
  yld : Nat → Hp → V → Hp → Prop
  stop : Nat → Hp → Prop
/-- the iterator's own objects may turn: they are not the frame's, not pinned, younger than the entry (or a comprehension's own) -/
def FpOk (X : Cx) (pins : List (Addr × Obj)) (H : Hp) (b : Addr) : Prop :=
  H b = none ∧ b ≠ X.env.locals ∧ b ∉ X.fs ∧ (b ∈ X.ex ∨ X.s₀.heap.objs.size ≤ b) ∧ (∀ x c, X.env.cells.lookup x = some c → c ≠ b) ∧ ∀ p ∈ X.pn ++ pins, p.1 ≠ b
theorem Inv.fpOk {X : Cx} {pins : List (Addr × Obj)} {σ : St} {H H' : Hp} {s : Shared} {b : Addr} (I : Inv X pins σ H s) (hb : s.heap.objs.size ≤ b) (hn : H' b = none) : FpOk X pins H' b := by
  refine ⟨hn, Nat.ne_of_gt (Nat.lt_of_lt_of_le I.lt hb), I.nofs hb, .inr (Nat.le_trans I.sz hb), fun x c e z => ?_, fun p hp z => ?_⟩
  · obtain ⟨v, q⟩ := I.cell x c e
    exact absurd (Nat.lt_of_lt_of_le q.lt (by rw [z]; exact hb)) (Nat.lt_irrefl _)
  · exact absurd (Nat.lt_of_lt_of_le (Heap.lt_size (I.pin p hp).1) (by rw [z]; exact hb)) (Nat.lt_irrefl _)
structure Turn (P : Program) (w : World) (K : PySem.W.Frag) (tg : Expr) (J : It) (fp : List Addr) (it : Addr) (tn : Nat → Heap → Prop) : Prop where
  mem : it ∈ fp
  obj : ∀ i h, tn i h → ∀ b ∈ fp, ∃ o, h.get? b = some o ∧ ∀ v, o.data ≠ .cell v
  keep : ∀ i h h', tn i h → (∀ b ∈ fp, ∀ o, h.get? b = some o → h'.get? b = some o) → tn i h'
  item : ∀ (X : Cx), X.prog = P → X.w = w → X.K = K → X.calm = true → ∀ (i : Nat) (pins : List (Addr × Obj)) (s : Shared) (σ : St) (H : Hp) (E : Value → Shared → Prop), Inv X pins σ H s → (∀ b ∈ fp, FpOk X pins H b) → tn i s.heap → J.go i H →
    wpAny (model P w) X.A (pyNext (.ref it)) (fun r s1 => ∃ u, r = some u ∧
      wpAny (model P w) X.A (letOwnedTupleGo tg (.ref it) u) (fun _ s2 => ∃ x H', Inv X pins σ H' s2 ∧ RelV x u ∧ J.yld i H x H' ∧ tn (i + 1) s2.heap ∧ ∀ b ∈ fp, H' b = none) E s1) E s
  done : ∀ (X : Cx), X.prog = P → X.w = w → X.K = K → X.calm = true → ∀ (i : Nat) (pins : List (Addr × Obj)) (s : Shared) (σ : St) (H : Hp) (E : Value → Shared → Prop), Inv X pins σ H s → (∀ b ∈ fp, FpOk X pins H b) → tn i s.heap → J.stop i H →
    wpAny (model P w) X.A (pyNext (.ref it)) (fun r s1 => r = none ∧ Inv X pins σ H s1) E s
  self : ∀ (A : Around) (i : Nat) (s : Shared) (Q : Value → Shared → Prop) (E : Value → Shared → Prop), tn i s.heap → Q (.ref it) s → wpAny (model P w) A (pyIter (.ref it)) Q E s
abbrev TI := St → Hp → (It → Hp → Prop) → Prop
/-- an iterator has come -/
def PIE (X : Cx) (pins : List (Addr × Obj)) (σ : St) (tg : Expr) (R : It → Hp → Prop) (itv : Value) (s2 : Shared) : Prop :=
  ∃ (it : Addr) (fp : List Addr) (tn : Nat → Heap → Prop) (J : It) (H' : Hp), itv = .ref it ∧ Inv X pins σ H' s2 ∧ Turn X.prog X.w X.K tg J fp it tn ∧ tn 0 s2.heap ∧ (∀ b ∈ fp, FpOk X pins H' b) ∧ R J H'
def PI (X : Cx) (tg iter : Expr) (wi : TI) : Prop :=
  ∀ (pins : List (Addr × Obj)) (s : Shared) (σ : St) (H : Hp) (R : It → Hp → Prop), Inv X pins σ H s → wi σ H R →
    wpAny (model X.prog X.w) X.A (eval iter X.env) (fun v s1 => wpAny (model X.prog X.w) X.A (pyIter v) (PIE X pins σ tg R) X.xe s1) X.xe s

/-- the step ahead of the store is nothing for an iterator that keeps no tuple -/
theorem go_of {M : Model} {A : Around} {E : Value → Shared → Prop} {s : Shared} {tg : Expr} {it : Addr} {u : Value} {o : Obj} {n : String} {vs : Array Value} {Q : Unit → Shared → Prop} (ho : s.heap.get? it = some o) (hc : o.cls = .type n) (hd : o.data = .fields vs)
    (hn : ["enumerate", "zip", "dict_itemiterator", "dict_reverseitemiterator", "odict_iterator", "itertools.zip_longest", "itertools.pairwise"].contains n = false) (hQ : Q () s) : wpAny M A (letOwnedTupleGo tg (.ref it) u) Q E s := by
  unfold letOwnedTupleGo
  cases tg <;> first
    | exact wpAny_pure hQ
    | (cases u <;> first
        | exact wpAny_pure hQ
        | (refine wpAny_bind (wpAny_load ho ?_)
           rw [hc, hd]
           show wpAny M A (if (["enumerate", "zip", "dict_itemiterator", "dict_reverseitemiterator", "odict_iterator", "itertools.zip_longest", "itertools.pairwise"].contains n && vs[0]? == some (rawInt _)) = true then _ else _) Q E s
           rw [if_neg (by intro h; rw [hn, Bool.false_and] at h; cases h)]
           exact wpAny_pure hQ))

/-- the list at a, as it stands at each turn (a loop may append to it) -/
def Itl (K : PySem.W.Frag) (a : Addr) : It :=
  ⟨fun i H => ∃ xs x, SqL K H a xs ∧ xs[i]? = some x, fun i H x H' => H' = H ∧ ∀ xs, SqL K H a xs → xs[i]? = some x, fun i H => ∃ xs, SqL K H a xs ∧ xs.length ≤ i⟩
def Itt (K : PySem.W.Frag) (a : Addr) : It :=
  ⟨fun i H => ∃ xs x, SqT K H a xs ∧ xs[i]? = some x, fun i H x H' => H' = H ∧ ∀ xs, SqT K H a xs → xs[i]? = some x, fun i H => ∃ xs, SqT K H a xs ∧ xs.length ≤ i⟩
/-- lo, lo + 1, .. (n of them) -/
def Itr (lo : Int) (n : Nat) : It := ⟨fun i _ => i < n, fun i H x H' => H' = H ∧ x = .int (lo + i), fun i _ => n ≤ i⟩
theorem turn_list {P : Program} {w : World} {K : PySem.W.Frag} {tg : Expr} (a it : Addr) : Turn P w K tg (Itl K a) [it] it (fun i h => h.IsListIter it a i) where
  mem := by simp
  obj := fun i h st b hb => by
    have e : b = it := by simpa using hb
    subst e
    obtain ⟨o, e, c, d⟩ := st
    exact ⟨o, e, fun v z => by rw [d] at z; cases z⟩
  keep := fun i h h' st k => st.at fun o e => k it (by simp) o e
  item := by
    intro X hP hw hK hc i pins s σ H E I hf st hg
    subst hP hw hK
    obtain ⟨xs, x, hq, hx⟩ := hg
    obtain ⟨its, rv, p, hz⟩ := I.list hq
    obtain ⟨u, hu, ru⟩ := rv.get hx
    obtain ⟨f0, f1, f2, f3, f4, f5⟩ := hf it (by simp)
    refine wpAny_pyNext_list_item st p.isList (x := u) (by simpa using hu) fun h' st' sb => ?_
    have I1 : Inv X pins σ H { s with heap := h' } := I.turned (t' := s.toks) (fun b o hb e => (sb.2 b hb).trans e) f0 f1 f3 f4 f5
    obtain ⟨o, e, c, d⟩ := id st'
    exact ⟨u, rfl, go_of (s := { s with heap := h' }) e c d (by decide) ⟨x, H, I1, ru, ⟨rfl, fun ys hy => by rw [I.list_inj hy hq]; exact hx⟩, st', fun b hb => (hf b hb).1⟩⟩
  done := by
    intro X hP hw hK hc i pins s σ H E I hf st hg
    subst hP hw hK
    obtain ⟨xs, hq, hx⟩ := hg
    obtain ⟨its, rv, p, hz⟩ := I.list hq
    obtain ⟨f0, f1, f2, f3, f4, f5⟩ := hf it (by simp)
    have hl := rv.length
    exact wpAny_pyNext_list_end (I.ok.hd hc) st p.isList (by simp; omega) fun h' eb => ⟨rfl, I.turned (t' := s.toks) (fun b o hb e => eb b o hb e) f0 f1 f3 f4 f5⟩
  self := fun _ _ _ _ _ st h => wpAny_pyIter_listiter st h
theorem turn_tuple {P : Program} {w : World} {K : PySem.W.Frag} {tg : Expr} (a it : Addr) : Turn P w K tg (Itt K a) [it] it (fun i h => h.IsTupleIter it a i) where
  mem := by simp
  obj := fun i h st b hb => by
    have e : b = it := by simpa using hb
    subst e
    obtain ⟨o, e, c, d⟩ := st
    exact ⟨o, e, fun v z => by rw [d] at z; cases z⟩
  keep := fun i h h' st k => st.at fun o e => k it (by simp) o e
  item := by
    intro X hP hw hK hc i pins s σ H E I hf st hg
    subst hP hw hK
    obtain ⟨xs, x, hq, hx⟩ := hg
    obtain ⟨its, rv, p, hz⟩ := I.tuple hq
    obtain ⟨u, hu, ru⟩ := rv.get hx
    obtain ⟨f0, f1, f2, f3, f4, f5⟩ := hf it (by simp)
    refine wpAny_pyNext_tuple_item st (show s.heap.IsTuple a its.toArray from p) (x := u) (by simpa using hu) fun h' st' sb => ?_
    have I1 : Inv X pins σ H { s with heap := h' } := I.turned (t' := s.toks) (fun b o hb e => (sb.2 b hb).trans e) f0 f1 f3 f4 f5
    obtain ⟨o, e, c, d⟩ := id st'
    exact ⟨u, rfl, go_of (s := { s with heap := h' }) e c d (by decide) ⟨x, H, I1, ru, ⟨rfl, fun ys hy => by rw [I.tuple_inj hy hq]; exact hx⟩, st', fun b hb => (hf b hb).1⟩⟩
  done := by
    intro X hP hw hK hc i pins s σ H E I hf st hg
    subst hP hw hK
    obtain ⟨xs, hq, hx⟩ := hg
    obtain ⟨its, rv, p, hz⟩ := I.tuple hq
    obtain ⟨f0, f1, f2, f3, f4, f5⟩ := hf it (by simp)
    have hl := rv.length
    exact wpAny_pyNext_tuple_end (I.ok.hd hc) st (show s.heap.IsTuple a its.toArray from p) (by simp; omega) fun h' eb => ⟨rfl, I.turned (t' := s.toks) (fun b o hb e => eb b o hb e) f0 f1 f3 f4 f5⟩
  self := fun _ _ _ _ _ st h => wpAny_pyIter_tupleiter st h
theorem turn_range {P : Program} {w : World} {K : PySem.W.Frag} {tg : Expr} (it : Addr) (lo : Int) (n : Nat) : Turn P w K tg (Itr lo n) [it] it (fun i h => IsRangeIter h it (lo + (i : Nat) * 1) ((n : Int) - (i : Nat)) 1) where
  mem := by simp
  obj := fun i h st b hb => by
    have e : b = it := by simpa using hb
    subst e
    exact ⟨_, st, fun v z => by
      have z' : Data.fields _ = Data.cell v := z
      cases z'⟩
  keep := fun i h h' st k => k it (by simp) _ st
  item := by
    intro X hP hw hK hc i pins s σ H E I hf st hg
    subst hP hw hK
    obtain ⟨f0, f1, f2, f3, f4, f5⟩ := hf it (by simp)
    have W := Walks.range (prog := X.prog) (w := X.w) (I.ok.hd hc) it lo 1 n
    refine W.item i s _ _ hg st fun v h' tk hv st' kk => ?_
    obtain ⟨t, rfl⟩ := hv
    have I1 : Inv X pins σ H { s with heap := h', toks := tk } := I.turned (fun b o hb e => kk b o (by simpa using hb) e) f0 f1 f3 f4 f5
    refine ⟨_, rfl, go_of (s := { s with heap := h', toks := tk }) (n := "range_iterator") st' rfl rfl (by decide) ⟨.int (lo + i), H, I1, ⟨t, ?_⟩, ⟨rfl, rfl⟩, st', fun b hb => (hf b hb).1⟩⟩
    rw [Int.mul_one]
  done := by
    intro X hP hw hK hc i pins s σ H E I hf st hg
    subst hP hw hK
    obtain ⟨f0, f1, f2, f3, f4, f5⟩ := hf it (by simp)
    exact wpAny_pyNext_range_end (I.ok.hd hc) st (by have : n ≤ i := hg; omega) fun h' eb => ⟨rfl, I.turned (t' := s.toks) (fun b o hb e => eb b o hb e) f0 f1 f3 f4 f5⟩
  self := fun _ _ _ _ _ st h => wpAny_pyIter_rangeiter st h
end L2

namespace L2
open PySem PySem.Spec PyProof.Rows
section
variable {X : Cx} {tg : Expr}
inductive ListI (K : PySem.W.Frag) (R : It → Hp → Prop) (x : V) (H1 : Hp) : Prop
  | mk (a : Addr) (e : x = .ref a) (h : ∃ xs, SqL K H1 a xs) (q : R (Itl K a) H1) : ListI K R x H1
def iList (K : PySem.W.Frag) (tl : TE) : TI := fun σ H R => tl σ H (ListI K R)
def iTup (K : PySem.W.Frag) (tl : TE) : TI := fun σ H R => tl σ H fun x H1 => ∃ a, x = .ref a ∧ (∃ xs, SqT K H1 a xs) ∧ R (Itt K a) H1
theorem pi_list {l : Expr} {tl : TE} (hl : PE X l tl) : PI X tg l (iList X.K tl) := by
  intro pins s σ H R I h
  refine thn (hl pins s σ H _ I h) fun v s1 ⟨x, H1, I1, r1, q1⟩ => ?_
  obtain ⟨a, e, ⟨xs, hq⟩, q⟩ := q1
  subst e
  cases r1
  obtain ⟨its, rv, p, hz⟩ := I1.list hq
  refine wpAny_pyIter_list p.isList ?_
  refine ⟨s1.heap.objs.size, [s1.heap.objs.size], _, _, H1, rfl, I1.kept (t' := s1.toks) fun b o e => Heap.get?_push_of_some _ e, turn_list a _, ⟨_, Heap.get?_push_size _ rfl, rfl, rfl⟩, fun b hb => ?_, q⟩
  have e : b = s1.heap.objs.size := by simpa using hb
  subst e
  exact I1.fpOk (Nat.le_refl _) (I1.hok.fresh (Nat.le_refl _))
theorem pi_tup {l : Expr} {tl : TE} (hl : PE X l tl) : PI X tg l (iTup X.K tl) := by
  intro pins s σ H R I h
  refine thn (hl pins s σ H _ I h) fun v s1 ⟨x, H1, I1, r1, q1⟩ => ?_
  obtain ⟨a, e, ⟨xs, hq⟩, q⟩ := q1
  subst e
  cases r1
  obtain ⟨its, rv, p, hz⟩ := I1.tuple hq
  refine wpAny_pyIter_tuple (show s1.heap.IsTuple a its.toArray from p) ?_
  refine ⟨s1.heap.objs.size, [s1.heap.objs.size], _, _, H1, rfl, I1.kept (t' := s1.toks) fun b o e => Heap.get?_push_of_some _ e, turn_tuple a _, ⟨_, Heap.get?_push_size _ rfl, rfl, rfl⟩, fun b hb => ?_, q⟩
  have e : b = s1.heap.objs.size := by simpa using hb
  subst e
  exact I1.fpOk (Nat.le_refl _) (I1.hok.fresh (Nat.le_refl _))
/-- a range object just made, walked -/
theorem range_it {pins : List (Addr × Obj)} {σ : St} {H : Hp} {s : Shared} {R : It → Hp → Prop} {E : Value → Shared → Prop} {lo hi : Int} {t u v : Tok} {tk : Nat} (I : Inv X pins σ H s) (h1 : -(2 ^ 62) ≤ lo) (h2 : lo < 2 ^ 62) (h3 : -(2 ^ 62) ≤ hi) (h4 : hi < 2 ^ 62)
    (q : R (Itr lo (hi - lo).toNat) H) : wpAny (model X.prog X.w) X.A (pyIter (.ref s.heap.objs.size)) (PIE X pins σ tg R) E { s with heap := s.heap.push { cls := .type "range", data := .fields #[.int lo t, .int hi u, .int 1 v] }, toks := tk } := by
  refine wpAny_pyIter_range (IsRange.new ..) (small_one h1 h2 h3 h4) ?_
  have I1 : Inv X pins σ H { s with heap := s.heap.push { cls := .type "range", data := .fields #[.int lo t, .int hi u, .int 1 v] }, toks := tk } := I.kept fun b o e => Heap.get?_push_of_some _ e
  refine ⟨(s.heap.push { cls := .type "range", data := .fields #[.int lo t, .int hi u, .int 1 v] }).objs.size, [(s.heap.push { cls := .type "range", data := .fields #[.int lo t, .int hi u, .int 1 v] }).objs.size], _, _, H, rfl,
    I1.kept (t' := tk) fun b o e => Heap.get?_push_of_some _ e, turn_range _ lo (hi - lo).toNat, ?_, fun b hb => ?_, q⟩
  · have e1 : lo + ((0 : Nat) : Int) * 1 = lo := by simp
    have e2 : (((hi - lo).toNat : Nat) : Int) - ((0 : Nat) : Int) = Builtin.Range.rangeSize lo hi 1 := by rw [rangeSize_one]; split <;> omega
    show IsRangeIter _ _ (lo + ((0 : Nat) : Int) * 1) ((((hi - lo).toNat : Nat) : Int) - ((0 : Nat) : Int)) 1
    rw [e1, e2]
    exact Heap.get?_push_size _ rfl
  · have e : b = (s.heap.push { cls := .type "range", data := .fields #[.int lo t, .int hi u, .int 1 v] }).objs.size := by simpa using hb
    subst e
    exact I1.fpOk (Nat.le_refl _) (I1.hok.fresh (Nat.le_refl _))
inductive Rng1I (R : It → Hp → Prop) (vs : List V) (H1 : Hp) : Prop
  | mk (j : Int) (e : vs = [.int j]) (h1 : -(2 ^ 62) ≤ j) (h2 : j < 2 ^ 62) (q : R (Itr 0 j.toNat) H1) : Rng1I R vs H1
def iRng1 (ta : TA) : TI := fun σ H R => ta σ H (Rng1I R)
def iRng2 (ta : TA) : TI := fun σ H R => ta σ H fun vs H1 => ∃ i j : Int, vs = [.int i, .int j] ∧ (-(2 ^ 62) ≤ i ∧ i < 2 ^ 62 ∧ -(2 ^ 62) ≤ j ∧ j < 2 ^ 62) ∧ R (Itr i (j - i).toNat) H1
theorem pi_range1 {a : Expr} {ta : TA} {p pos : Pos} (hg : Gl X "range") (hm : X.mg "range" = none) (ha : PA X [a] ta) (hs : starEach [a] X.env = [(false, eval a X.env)] := by rfl) : PI X tg (.Call (.Name "range" p) [a] [] pos) (iRng1 ta) := by
  intro pins s σ H R I h
  refine Call_ (ld_blt I hg hm boot_range (PyProof.Rows.callWith_type1 (thn (ha pos pins s σ H _ I h) fun us s1 ⟨vs, H1, I1, r1, q1⟩ => ?_) hs rfl))
  obtain ⟨j, e, q1, q2, q⟩ := q1
  subst e
  cases r1 with
  | cons r rr =>
    cases rr
    obtain ⟨t, rfl⟩ := r
    exact call_range_1 (range_it I1 (by omega) (by omega) q1 q2 (by simpa using q))
theorem pi_range2 {a b : Expr} {ta : TA} {p pos : Pos} (hg : Gl X "range") (hm : X.mg "range" = none) (ha : PA X [a, b] ta) (hs : starEach [a, b] X.env = [(false, eval a X.env), (false, eval b X.env)] := by rfl) (hs2 : starEach [b] X.env = [(false, eval b X.env)] := by rfl) :
    PI X tg (.Call (.Name "range" p) [a, b] [] pos) (iRng2 ta) := by
  intro pins s σ H R I h
  refine Call_ (ld_blt I hg hm boot_range (PyProof.Rows.callWith_type1 (thn (ha pos pins s σ H _ I h) fun us s1 ⟨vs, H1, I1, r1, q1⟩ => ?_) (by rw [hs, hs2]) (by rw [hs2]; rfl)))
  obtain ⟨i, j, e, ⟨q1, q2, q3, q4⟩, q⟩ := q1
  subst e
  cases r1 with
  | cons r rr =>
    cases rr with
    | cons r' rr =>
      cases rr
      obtain ⟨t, rfl⟩ := r
      obtain ⟨t', rfl⟩ := r'
      exact call_range_2 (range_it I1 q1 q2 q3 q4 q)

/-! ### for -/
/-- W: the invariant by the turn and a measure; N: what the body is to reach -/
def tFor (wi : TI) (g : TG) (tb : TS) : TS := fun D σ H => wi σ H fun J H1 => ∃ W : Nat → Nat → St → Hp → Prop, (∃ m, W 0 m σ H1) ∧ ∀ i m σ H, W i m σ H →
  (J.stop i H ∧ D.nx σ H) ∨ (J.go i H ∧ ∃ N : St → Hp → Prop, (∀ σ' H', N σ' H' → ∃ m', m' < m ∧ W (i + 1) m' σ' H') ∧ ∀ x H', J.yld i H x H' → g x σ H' fun σ2 H2 => tb { D with nx := N, ct := N, bk := D.nx } σ2 H2)
/-- the records at fp as they stand -/
def pinsAt (fp : List Addr) (h : Heap) : List (Addr × Obj) := fp.filterMap fun b => (h.get? b).map fun o => (b, o)
theorem mem_pinsAt {fp : List Addr} {h : Heap} {b : Addr} {o : Obj} (hb : b ∈ fp) (e : h.get? b = some o) : (b, o) ∈ pinsAt fp h := List.mem_filterMap.mpr ⟨b, hb, by rw [e]; rfl⟩
theorem of_pinsAt {fp : List Addr} {h : Heap} {p : Addr × Obj} (hp : p ∈ pinsAt fp h) : p.1 ∈ fp ∧ h.get? p.1 = some p.2 := by
  obtain ⟨b, hb, e⟩ := List.mem_filterMap.mp hp
  cases q : h.get? b with
  | none => rw [q] at e; cases e
  | some o =>
    rw [q] at e
    have e' : (b, o) = p := Option.some.inj e
    subst e'
    exact ⟨hb, q⟩
theorem Inv.pinned {pins : List (Addr × Obj)} {σ : St} {H : Hp} {s : Shared} {fp : List Addr} (I : Inv X pins σ H s) (hf : ∀ b ∈ fp, FpOk X pins H b) (ho : ∀ b ∈ fp, ∃ o, s.heap.get? b = some o ∧ ∀ v, o.data ≠ .cell v) : Inv X (pins ++ pinsAt fp s.heap) σ H s :=
  I.pins_of fun p hp => (List.mem_append.mp hp).elim (fun z => I.pin p (List.mem_append_right _ z)) fun z => by
    obtain ⟨hb, e⟩ := of_pinsAt z
    obtain ⟨f0, f1, f2, _⟩ := hf p.1 hb
    obtain ⟨o, e', d⟩ := ho p.1 hb
    rw [e] at e'; cases e'
    exact ⟨e, f0, f1, f2, d⟩
theorem Inv.unpinned {pins pl : List (Addr × Obj)} {σ : St} {H : Hp} {s : Shared} (I : Inv X (pins ++ pl) σ H s) : Inv X pins σ H s := I.pins_of fun p hp => I.pin p (List.mem_append_right _ (List.mem_append_left _ hp))
theorem ps_for {iter : Expr} {body : List Stmt} {wi : TI} {g : TG} {tb : TS} {pos : Pos} (hp : PassesOwn (model X.prog X.w) X.A X.env X.xe) (hc : X.calm = true) (hi : PI X tg iter wi) (hg : PG X tg g) (hb : PSs X body tb)
    (hs : ∀ x, foldedSetIterable iter X.env x = pure x := by intro _; rfl) : PS X (.For tg iter body [] pos) (tFor wi g tb) := by
  intro pins s σ H D I h
  refine wpAny_For (thn (hi pins s σ H _ I h) fun v s1 h1 => thn h1 fun itv s2 h2 => ?_) hs
  obtain ⟨it, fp, tn, J, H2, e, I2, T, st2, f2, W, ⟨m0, w0⟩, turn⟩ := h2
  subst e
  -- what stays true of the iterator's objects through the loop
  have stat : ∀ {H' : Hp}, (∀ b ∈ fp, H' b = none) → ∀ b ∈ fp, FpOk X pins H' b := fun hn b hb => ⟨hn b hb, (f2 b hb).2⟩
  refine codeAny_forLoop_any (fun n s' => ∃ i σ' H', Inv X pins σ' H' s' ∧ tn i s'.heap ∧ (∀ b ∈ fp, H' b = none) ∧ W i n σ' H') ?_ m0 ⟨0, σ, H2, I2, st2, fun b hb => (f2 b hb).1, w0⟩
  rintro n s3 ⟨i, σ3, H3, I3, st3, fr3, w3⟩
  rcases turn i n σ3 H3 w3 with ⟨stop, qn⟩ | ⟨go, N, hN, step⟩
  · refine wpAny_passesOwn hp (thn (T.done X rfl rfl rfl hc i pins s3 σ3 H3 X.xe I3 (stat fr3) st3 stop) fun r s4 ⟨hr, I4⟩ => ?_)
    subst hr
    exact wpAny_execs_nil ⟨σ3, H3, I4, qn⟩
  · refine wpAny_passesOwn hp (thn (T.item X rfl rfl rfl hc i pins s3 σ3 H3 X.xe I3 (stat fr3) st3 go) fun r s4 ⟨u, hr, h4⟩ => ?_)
    subst hr
    refine wpAny_passesOwn hp (thn h4 fun _ s5 ⟨x, H5, I5, r5, y5, st5, fr5⟩ => ?_)
    have I5' := I5.pinned (stat fr5) (T.obj _ _ st5)
    refine wpAny_passesOwn hp (thn (hg _ s5 σ3 H5 x u _ I5' r5 (step x H5 y5)) fun _ s6 ⟨σ6, H6, I6, q6⟩ => ?_)
    refine wpAny_passesOwn hp (thn (hb _ s6 σ6 H6 _ I6 q6) fun f s7 q7 => ?_)
    have again : ∀ {σ7 : St} {H7 : Hp}, Inv X (pins ++ pinsAt fp s5.heap) σ7 H7 s7 → N σ7 H7 → ∃ m, m < n ∧ ∃ i σ' H', Inv X pins σ' H' s7 ∧ tn i s7.heap ∧ (∀ b ∈ fp, H' b = none) ∧ W i m σ' H' := fun {σ7 H7} I7 n7 => by
      obtain ⟨m', hm, w7⟩ := hN σ7 H7 n7
      refine ⟨m', hm, i + 1, σ7, H7, I7.unpinned, T.keep _ _ _ st5 fun b hb o e => (I7.pin (b, o) (List.mem_append_right _ (List.mem_append_right _ (mem_pinsAt hb e)))).1, fun b hb => ?_, w7⟩
      obtain ⟨o, e, d⟩ := T.obj _ _ st5 b hb
      exact (I7.pin (b, o) (List.mem_append_right _ (List.mem_append_right _ (mem_pinsAt hb e)))).2.1
    cases f with
    | next => obtain ⟨σ7, H7, I7, n7⟩ := q7; exact again I7 n7
    | cont => obtain ⟨σ7, H7, I7, n7⟩ := q7; exact again I7 n7
    | brk => obtain ⟨σ7, H7, I7, q7⟩ := q7; exact ⟨σ7, H7, I7.unpinned, q7⟩
    | ret v => obtain ⟨x7, σ7, H7, I7, r7, q7⟩ := q7; exact ⟨x7, σ7, H7, I7.unpinned, r7, q7⟩
end

/-! ### the forms one uses -/
/-- over a list that the body leaves as it is -/
theorem for_list {K : PySem.W.Frag} {a : Addr} {xs : List V} {g : TG} {tb : TS} {D : Ends} {σ : St} {H : Hp} (Pv : Nat → St → Hp → Prop) (h0 : Pv 0 σ H) (hl : ∀ i σ H, i ≤ xs.length → Pv i σ H → SqL K H a xs)
    (hs : ∀ i x σ H, xs[i]? = some x → Pv i σ H → g x σ H fun σ2 H2 => tb { D with nx := Pv (i + 1), ct := Pv (i + 1), bk := D.nx } σ2 H2) (hd : ∀ σ H, Pv xs.length σ H → D.nx σ H) :
    ∃ W : Nat → Nat → St → Hp → Prop, (∃ m, W 0 m σ H) ∧ ∀ i m σ H, W i m σ H →
      ((Itl K a).stop i H ∧ D.nx σ H) ∨ ((Itl K a).go i H ∧ ∃ N : St → Hp → Prop, (∀ σ' H', N σ' H' → ∃ m', m' < m ∧ W (i + 1) m' σ' H') ∧ ∀ x H', (Itl K a).yld i H x H' → g x σ H' fun σ2 H2 => tb { D with nx := N, ct := N, bk := D.nx } σ2 H2) := by
  refine ⟨fun i m σ H => m = xs.length - i ∧ i ≤ xs.length ∧ Pv i σ H, ⟨xs.length, by simp, Nat.zero_le _, h0⟩, ?_⟩
  rintro i m σ H ⟨rfl, hi, p⟩
  have q := hl i σ H hi p
  by_cases hlt : i < xs.length
  · refine .inr ⟨⟨xs, xs[i], q, by simp [hlt]⟩, Pv (i + 1), fun σ' H' p' => ⟨xs.length - (i + 1), by omega, rfl, hlt, p'⟩, fun x H' y => ?_⟩
    obtain ⟨e, y⟩ := y
    subst e
    exact hs i x σ _ (y xs q) p
  · have e : i = xs.length := by omega
    subst e
    exact .inl ⟨⟨xs, q, Nat.le_refl _⟩, hd σ H p⟩
theorem for_tup {K : PySem.W.Frag} {a : Addr} {xs : List V} {g : TG} {tb : TS} {D : Ends} {σ : St} {H : Hp} (Pv : Nat → St → Hp → Prop) (h0 : Pv 0 σ H) (hl : ∀ i σ H, i ≤ xs.length → Pv i σ H → SqT K H a xs)
    (hs : ∀ i x σ H, xs[i]? = some x → Pv i σ H → g x σ H fun σ2 H2 => tb { D with nx := Pv (i + 1), ct := Pv (i + 1), bk := D.nx } σ2 H2) (hd : ∀ σ H, Pv xs.length σ H → D.nx σ H) :
    ∃ W : Nat → Nat → St → Hp → Prop, (∃ m, W 0 m σ H) ∧ ∀ i m σ H, W i m σ H →
      ((Itt K a).stop i H ∧ D.nx σ H) ∨ ((Itt K a).go i H ∧ ∃ N : St → Hp → Prop, (∀ σ' H', N σ' H' → ∃ m', m' < m ∧ W (i + 1) m' σ' H') ∧ ∀ x H', (Itt K a).yld i H x H' → g x σ H' fun σ2 H2 => tb { D with nx := N, ct := N, bk := D.nx } σ2 H2) := by
  refine ⟨fun i m σ H => m = xs.length - i ∧ i ≤ xs.length ∧ Pv i σ H, ⟨xs.length, by simp, Nat.zero_le _, h0⟩, ?_⟩
  rintro i m σ H ⟨rfl, hi, p⟩
  have q := hl i σ H hi p
  by_cases hlt : i < xs.length
  · refine .inr ⟨⟨xs, xs[i], q, by simp [hlt]⟩, Pv (i + 1), fun σ' H' p' => ⟨xs.length - (i + 1), by omega, rfl, hlt, p'⟩, fun x H' y => ?_⟩
    obtain ⟨e, y⟩ := y
    subst e
    exact hs i x σ _ (y xs q) p
  · have e : i = xs.length := by omega
    subst e
    exact .inl ⟨⟨xs, q, Nat.le_refl _⟩, hd σ H p⟩
theorem for_range {lo : Int} {n : Nat} {g : TG} {tb : TS} {D : Ends} {σ : St} {H : Hp} (Pv : Nat → St → Hp → Prop) (h0 : Pv 0 σ H)
    (hs : ∀ i σ H, i < n → Pv i σ H → g (.int (lo + i)) σ H fun σ2 H2 => tb { D with nx := Pv (i + 1), ct := Pv (i + 1), bk := D.nx } σ2 H2) (hd : ∀ σ H, Pv n σ H → D.nx σ H) :
    ∃ W : Nat → Nat → St → Hp → Prop, (∃ m, W 0 m σ H) ∧ ∀ i m σ H, W i m σ H →
      ((Itr lo n).stop i H ∧ D.nx σ H) ∨ ((Itr lo n).go i H ∧ ∃ N : St → Hp → Prop, (∀ σ' H', N σ' H' → ∃ m', m' < m ∧ W (i + 1) m' σ' H') ∧ ∀ x H', (Itr lo n).yld i H x H' → g x σ H' fun σ2 H2 => tb { D with nx := N, ct := N, bk := D.nx } σ2 H2) := by
  refine ⟨fun i m σ H => m = n - i ∧ i ≤ n ∧ Pv i σ H, ⟨n, by simp, Nat.zero_le _, h0⟩, ?_⟩
  rintro i m σ H ⟨rfl, hi, p⟩
  by_cases hlt : i < n
  · refine .inr ⟨hlt, Pv (i + 1), fun σ' H' p' => ⟨n - (i + 1), by omega, rfl, hlt, p'⟩, fun x H' y => ?_⟩
    obtain ⟨e, y⟩ := y
    subst e y
    exact hs i σ _ hlt p
  · have e : i = n := by omega
    subst e
    exact .inl ⟨Nat.le_refl _, hd σ H p⟩
/-- while, by a word and a measure of the state -/
theorem while_by {c : TT} {tb : TS} {D : Ends} {σ : St} {H : Hp} (Pv : St → Hp → Prop) (μ : St → Hp → Nat) (h0 : Pv σ H)
    (hs : ∀ σ H, Pv σ H → c σ H fun b H1 => if b = true then tb { D with nx := fun σ' H' => Pv σ' H' ∧ μ σ' H' < μ σ H, ct := fun σ' H' => Pv σ' H' ∧ μ σ' H' < μ σ H, bk := D.nx } σ H1 else D.nx σ H1)
    (mono : ∀ σ H Q Q', (∀ b H1, Q b H1 → Q' b H1) → c σ H Q → c σ H Q') : tWhile c tb D σ H := by
  refine ⟨fun m σ H => m = μ σ H ∧ Pv σ H, ⟨_, rfl, h0⟩, ?_⟩
  rintro m σ H ⟨rfl, p⟩
  refine mono σ H _ _ (fun b H1 q => ?_) (hs σ H p)
  cases b with
  | true => exact ⟨_, fun σ' H' ⟨p', l⟩ => ⟨_, l, rfl, p'⟩, q⟩
  | false => exact q
end L2

namespace L2
open PySem PySem.Spec PyProof.Rows

abbrev R2 := V → V → Hp → VK → Prop
/-- a two-place operation on values: f is binaryOp op, inplaceOp op or compareOp op -/
def OpR (X : Cx) (f : Value → Value → Sem Value) (r : R2) : Prop :=
  ∀ (pins : List (Addr × Obj)) (s : Shared) (σ : St) (H : Hp) (x y : V) (v u : Value) (Q : VK), Inv X pins σ H s → RelV x v → RelV y u → r x y H Q →
    wpAny (model X.prog X.w) X.A (f v u) (EP X pins σ Q) X.xe s
/-- a one-place operation -/
def UnR (X : Cx) (f : Value → Sem Value) (r : V → Hp → VK → Prop) : Prop :=
  ∀ (pins : List (Addr × Obj)) (s : Shared) (σ : St) (H : Hp) (x : V) (v : Value) (Q : VK), Inv X pins σ H s → RelV x v → r x H Q →
    wpAny (model X.prog X.w) X.A (f v) (EP X pins σ Q) X.xe s
/-- a call of a value that is known (a builtin, a type) with values -/
def CallR (X : Cx) (f : Value) (r : List V → Hp → VK → Prop) : Prop :=
  ∀ (pins : List (Addr × Obj)) (s : Shared) (σ : St) (H : Hp) (xs : List V) (us : List Value) (Q : VK), Inv X pins σ H s → Vals xs us → r xs H Q →
    wpAny (model X.prog X.w) X.A (call f us) (EP X pins σ Q) X.xe s
/-- a value's truth -/
def TruR (X : Cx) (r : V → Hp → (Bool → Hp → Prop) → Prop) : Prop :=
  ∀ (pins : List (Addr × Obj)) (s : Shared) (σ : St) (H : Hp) (x : V) (v : Value) (Q : Bool → Hp → Prop), Inv X pins σ H s → RelV x v → r x H Q →
    wpAny (model X.prog X.w) X.A (truthy v) (TP X pins σ Q) X.xe s

def tOp (r : R2) (ta tb : TE) : TE := fun σ H Q => ta σ H fun x H1 => tb σ H1 fun y H2 => r x y H2 Q
def tUn (r : V → Hp → VK → Prop) (ta : TE) : TE := fun σ H Q => ta σ H fun x H1 => r x H1 Q
/-- ints in, under C, and a value out -/
def rI (C : Int → Int → Prop) (g : Int → Int → V) : R2 := fun x y H Q => ∃ i j, x = .int i ∧ y = .int j ∧ C i j ∧ Q (g i j) H
def rI0 (g : Int → Int → V) : R2 := fun x y H Q => ∃ i j, x = .int i ∧ y = .int j ∧ Q (g i j) H
def rU (g : Int → V) : V → Hp → VK → Prop := fun x H Q => ∃ i, x = .int i ∧ Q (g i) H

section
variable {X : Cx} {a b c : Expr} {ta tb tc : TE} {pos : Pos}

theorem binT (ha : PE X a ta) (hb : PE X b tb) {pins : List (Addr × Obj)} {s : Shared} {σ : St} {H : Hp} {R : V → V → Hp → Prop} (I : Inv X pins σ H s)
    (h : ta σ H fun x H1 => tb σ H1 fun y H2 => R x y H2) {Q : Value → Shared → Prop} {f : Value → Value → Sem Value}
    (hf : ∀ v u s2 x y H2, Inv X pins σ H2 s2 → RelV x v → RelV y u → R x y H2 → wpAny (model X.prog X.w) X.A (f v u) Q X.xe s2) :
    wpAny (model X.prog X.w) X.A (eval a X.env) (fun v s₁ => wpAny (model X.prog X.w) X.A (eval b X.env) (fun u s₂ => wpAny (model X.prog X.w) X.A (f v u) Q X.xe s₂) X.xe s₁) X.xe s := by
  refine thn (ha pins s σ H _ I h) fun v s1 ⟨x, H1, I1, r1, q1⟩ => ?_
  refine thn (hb pins s1 σ H1 _ I1 q1) fun u s2 ⟨y, H2, I2, r2, q2⟩ => ?_
  exact hf v u s2 x y H2 I2 r1 r2 q2

theorem pe_op {op : Operator} {r : R2} (ho : OpR X (binaryOp op) r) (ha : PE X a ta) (hb : PE X b tb) : PE X (.BinOp a op b pos) (tOp r ta tb) := by
  intro pins s σ H Q I h
  exact wpAny_BinOp (binT ha hb I h fun v u s2 x y H2 I2 rx ry q => ho pins s2 σ H2 x y v u Q I2 rx ry q)
theorem pe_un {op : UnaryOp} {r : V → Hp → VK → Prop} (ho : UnR X (unaryOp op) r) (ha : PE X a ta) : PE X (.UnaryOp op a pos) (tUn r ta) := by
  intro pins s σ H Q I h
  exact UnaryOp_ (thn (ha pins s σ H _ I h) fun v s1 ⟨x, H1, I1, r1, q1⟩ => ho pins s1 σ H1 x v Q I1 r1 q1)
/-- a op= e at a name: the name's slot i -/
theorem augR {op : Operator} {r : R2} (ho : OpR X (inplaceOp op) r) {pins : List (Addr × Obj)} {s : Shared} {σ : St} {H : Hp} {x y : V} {v u : Value} {Q : VK} (I : Inv X pins σ H s)
    (rx : RelV x v) (ry : RelV y u) (q : r x y H Q) : wpAny (model X.prog X.w) X.A (inplaceOp op v u) (EP X pins σ Q) X.xe s := ho pins s σ H x y v u Q I rx ry q

/-! ### ints -/
theorem opI {f : Value → Value → Sem Value} {C : Int → Int → Prop} {g : Int → Int → Int}
    (rule : ∀ (i j : Int) (t u : Tok) (s : Shared) (Q : Value → Shared → Prop) (E : Value → Shared → Prop), C i j → Q (.int (g i j) s.toks) { s with toks := s.toks + 1 } → wpAny (model X.prog X.w) X.A (f (.int i t) (.int j u)) Q E s) :
    OpR X f (rI C fun i j => .int (g i j)) := by
  intro pins s σ H x y v u Q I rx ry h
  obtain ⟨i, j, rfl, rfl, hc, q⟩ := h
  obtain ⟨t, rfl⟩ := rx
  obtain ⟨t', rfl⟩ := ry
  exact rule i j t t' s _ _ hc ⟨.int (g i j), H, I.tok _, ⟨_, rfl⟩, q⟩
theorem opI0 {f : Value → Value → Sem Value} {g : Int → Int → Int}
    (rule : ∀ (i j : Int) (t u : Tok) (s : Shared) (Q : Value → Shared → Prop) (E : Value → Shared → Prop), Q (.int (g i j) s.toks) { s with toks := s.toks + 1 } → wpAny (model X.prog X.w) X.A (f (.int i t) (.int j u)) Q E s) :
    OpR X f (rI0 fun i j => .int (g i j)) := by
  intro pins s σ H x y v u Q I rx ry h
  obtain ⟨i, j, rfl, rfl, q⟩ := h
  obtain ⟨t, rfl⟩ := rx
  obtain ⟨t', rfl⟩ := ry
  exact rule i j t t' s _ _ ⟨.int (g i j), H, I.tok _, ⟨_, rfl⟩, q⟩
theorem opB0 {f : Value → Value → Sem Value} {g : Int → Int → Bool}
    (rule : ∀ (i j : Int) (t u : Tok) (s : Shared) (Q : Value → Shared → Prop) (E : Value → Shared → Prop), Q (.bool (g i j)) s → wpAny (model X.prog X.w) X.A (f (.int i t) (.int j u)) Q E s) :
    OpR X f (rI0 fun i j => .bl (g i j)) := by
  intro pins s σ H x y v u Q I rx ry h
  obtain ⟨i, j, rfl, rfl, q⟩ := h
  obtain ⟨t, rfl⟩ := rx
  obtain ⟨t', rfl⟩ := ry
  exact rule i j t t' s _ _ ⟨.bl (g i j), H, I, rfl, q⟩

def CDiv (i j : Int) : Prop := 0 < j ∧ j < 1073741824
def CDivN (i j : Int) : Prop := j ≠ 0 ∧ j.natAbs < 1073741824
def CPow (i j : Int) : Prop := 0 ≤ j ∧ j ≤ 1000000 ∧ i.natAbs < 2 ^ 64
def CMul (i j : Int) : Prop := (-(2 ^ 64) < i ∧ i < 2 ^ 64) ∨ (-(2 ^ 64) < j ∧ j < 2 ^ 64)
theorem CMul.ok {i j : Int} (h : CMul i j) : IntMulOk i j := by
  rcases h with ⟨h1, h2⟩ | ⟨h1, h2⟩
  · exact .of_left (intBits_le_64 h1 h2)
  · exact .of_right (intBits_le_64 h1 h2)
theorem two_pow_nn (k : Nat) : (0 : Int) ≤ 2 ^ k := by
  rw [two_pow_cast]
  exact Int.natCast_nonneg _

theorem op_add : OpR X (binaryOp .Add) (rI0 fun i j => .int (i + j)) := opI0 fun _ _ _ _ _ _ _ q => add_int q
theorem op_sub : OpR X (binaryOp .Sub) (rI0 fun i j => .int (i - j)) := opI0 fun _ _ _ _ _ _ _ q => sub_int q
theorem op_mul : OpR X (binaryOp .Mult) (rI CMul fun i j => .int (i * j)) := opI fun _ _ _ _ _ _ _ hc q => mul_int q hc.ok
/-- // by a positive divisor -/
theorem op_fdiv : OpR X (binaryOp .FloorDiv) (rI CDiv fun i j => .int (i / j)) := opI fun i j _ _ _ _ _ hc q => by
  have h1 : (0 : Int) < j := hc.1
  have h2 : j < 1073741824 := hc.2
  exact floordiv_int (by omega) (by rw [Int.fdiv_eq_ediv_of_nonneg i (by omega)]; exact q) (.inl (PyProof.noPylong_small (by omega)))
theorem op_fdivN : OpR X (binaryOp .FloorDiv) (rI CDivN fun i j => .int (i.fdiv j)) := opI fun _ _ _ _ _ _ _ hc q => floordiv_int hc.1 q (.inl (PyProof.noPylong_small hc.2))
/-- % by a positive divisor of any size -/
theorem op_mod : OpR X (binaryOp .Mod) (rI (fun _ j => 0 < j) fun i j => .int (i % j)) := opI fun i j _ _ _ _ _ hc q => by
  have h1 : (0 : Int) < j := hc
  exact mod_int' (by omega) (by rw [Int.fmod_eq_emod_of_nonneg i (by omega)]; exact q)
theorem op_modN : OpR X (binaryOp .Mod) (rI (fun _ j => j ≠ 0) fun i j => .int (i.fmod j)) := opI fun _ _ _ _ _ _ _ hc q => mod_int' hc q
theorem op_pow : OpR X (binaryOp .Pow) (rI CPow fun i j => .int (i ^ j.toNat)) := opI fun _ _ _ _ _ _ _ hc q => pow_int_small hc.1 hc.2.1 hc.2.2 q
theorem op_shl : OpR X (binaryOp .LShift) (rI CPow fun i j => .int (i * 2 ^ j.toNat)) := opI fun _ _ _ _ _ _ _ hc q => lshift_int_small hc.1 hc.2.1 hc.2.2 q
theorem op_shr : OpR X (binaryOp .RShift) (rI (fun _ j => 0 ≤ j) fun i j => .int (i / 2 ^ j.toNat)) := opI fun i j _ _ _ _ _ hc q =>
  rshift_int hc (by rw [Int.fdiv_eq_ediv_of_nonneg i (two_pow_nn _)]; exact q)
theorem op_and : OpR X (binaryOp .BitAnd) (rI0 fun i j => .int (Builtin.bitAnd i j)) := opI0 fun _ _ _ _ _ _ _ q => and_int q
theorem op_or : OpR X (binaryOp .BitOr) (rI0 fun i j => .int (Builtin.bitOr i j)) := opI0 fun _ _ _ _ _ _ _ q => or_int q
theorem op_xor : OpR X (binaryOp .BitXor) (rI0 fun i j => .int (Builtin.bitXor i j)) := opI0 fun _ _ _ _ _ _ _ q => xor_int q

theorem iop_add : OpR X (inplaceOp .Add) (rI0 fun i j => .int (i + j)) := opI0 fun _ _ _ _ _ _ _ q => iadd_int q
theorem iop_sub : OpR X (inplaceOp .Sub) (rI0 fun i j => .int (i - j)) := opI0 fun _ _ _ _ _ _ _ q => isub_int q
theorem iop_mul : OpR X (inplaceOp .Mult) (rI CMul fun i j => .int (i * j)) := opI fun _ _ _ _ _ _ _ hc q => imul_int q hc.ok
theorem iop_fdiv : OpR X (inplaceOp .FloorDiv) (rI CDiv fun i j => .int (i / j)) := opI fun i j _ _ _ _ _ hc q => by
  have h1 : (0 : Int) < j := hc.1
  have h2 : j < 1073741824 := hc.2
  exact ifloordiv_int (by omega) (by rw [Int.fdiv_eq_ediv_of_nonneg i (by omega)]; exact q) (.inl (PyProof.noPylong_small (by omega)))
theorem iop_mod : OpR X (inplaceOp .Mod) (rI (fun _ j => 0 < j) fun i j => .int (i % j)) := opI fun i j _ _ _ _ _ hc q => by
  have h1 : (0 : Int) < j := hc
  exact imod_int (by omega) (by rw [Int.fmod_eq_emod_of_nonneg i (by omega)]; exact q)
theorem iop_shl : OpR X (inplaceOp .LShift) (rI CPow fun i j => .int (i * 2 ^ j.toNat)) := opI fun _ _ _ _ _ _ _ hc q => ilshift_int_small hc.1 hc.2.1 hc.2.2 q
theorem iop_shr : OpR X (inplaceOp .RShift) (rI (fun _ j => 0 ≤ j) fun i j => .int (i / 2 ^ j.toNat)) := opI fun i j _ _ _ _ _ hc q =>
  irshift_int hc (by rw [Int.fdiv_eq_ediv_of_nonneg i (two_pow_nn _)]; exact q)
theorem iop_and : OpR X (inplaceOp .BitAnd) (rI0 fun i j => .int (Builtin.bitAnd i j)) := opI0 fun _ _ _ _ _ _ _ q => iand_int q
theorem iop_or : OpR X (inplaceOp .BitOr) (rI0 fun i j => .int (Builtin.bitOr i j)) := opI0 fun _ _ _ _ _ _ _ q => ior_int q
theorem iop_xor : OpR X (inplaceOp .BitXor) (rI0 fun i j => .int (Builtin.bitXor i j)) := opI0 fun _ _ _ _ _ _ _ q => ixor_int q

theorem unI {f : Value → Sem Value} {g : Int → Int}
    (rule : ∀ (i : Int) (t : Tok) (s : Shared) (Q : Value → Shared → Prop) (E : Value → Shared → Prop), Q (.int (g i) s.toks) { s with toks := s.toks + 1 } → wpAny (model X.prog X.w) X.A (f (.int i t)) Q E s) :
    UnR X f (rU fun i => .int (g i)) := by
  intro pins s σ H x v Q I rx h
  obtain ⟨i, rfl, q⟩ := h
  obtain ⟨t, rfl⟩ := rx
  exact rule i t s _ _ ⟨.int (g i), H, I.tok _, ⟨_, rfl⟩, q⟩
theorem un_neg : UnR X (unaryOp .USub) (rU fun i => .int (-i)) := unI fun _ _ _ _ _ q => neg_int q
theorem un_inv : UnR X (unaryOp .Invert) (rU fun i => .int (Builtin.bitNot i)) := unI fun _ _ _ _ _ q => invert_int q

/-! ### bools among ints: n += (a < b) -/
theorem op_add_ib : OpR X (binaryOp .Add) (fun x y H Q => ∃ i k, x = .int i ∧ y = .bl k ∧ Q (.int (i + b2i k)) H) := by
  intro pins s σ H x y v u Q I rx ry h
  obtain ⟨i, k, rfl, rfl, q⟩ := h
  obtain ⟨t, rfl⟩ := rx
  cases ry
  exact add_int_bool ⟨.int (i + b2i k), H, I.tok _, ⟨_, rfl⟩, q⟩
end

/-! ### comparisons -/
/-- the scalars that == tells apart as data does -/
def scal : V → V → Bool
  | .non, .non => true | .non, .int _ => true | .int _, .non => true | .non, .bl _ => true | .bl _, .non => true | .non, .str _ => true | .str _, .non => true
  | .int _, .int _ => true | .bl _, .bl _ => true | .str _, .str _ => true | .byt _, .byt _ => true
  | .int _, .str _ => true | .str _, .int _ => true | .bl _, .str _ => true | .str _, .bl _ => true
  | _, _ => false
def rEq : R2 := fun x y H Q => scal x y = true ∧ Q (.bl (decide (x = y))) H
def rNe : R2 := fun x y H Q => scal x y = true ∧ Q (.bl (!decide (x = y))) H

theorem dec_int {i j : Int} : decide (V.int i = V.int j) = (i == j) := by
  rw [Bool.eq_iff_iff]
  simp
theorem dec_bl {i j : Bool} : decide (V.bl i = V.bl j) = (i == j) := by
  rw [Bool.eq_iff_iff]
  simp
theorem dec_str {i j : Str} : decide (V.str i = V.str j) = (i == j) := by
  rw [Bool.eq_iff_iff]
  simp
theorem dec_byt {i j : Array UInt8} : decide (V.byt i = V.byt j) = (i.toList == j.toList) := by
  rw [Bool.eq_iff_iff]
  cases i
  cases j
  simp

section
variable {X : Cx} {a b c : Expr} {ta tb tc : TE} {pos : Pos}
theorem fin_bl {pins : List (Addr × Obj)} {σ : St} {H : Hp} {s : Shared} {Q : VK} {k k' : Bool} (I : Inv X pins σ H s) (q : Q (.bl k) H) (e : k = k') : EP X pins σ Q (.bool k') s := by
  subst e
  exact ⟨.bl k, H, I, rfl, q⟩
theorem op_eq : OpR X (compareOp .Eq) rEq := by
  intro pins s σ H x y v u Q I rx ry h
  obtain ⟨hs, q⟩ := h
  cases x with
  | non =>
    cases rx
    cases y with
    | non => cases ry; exact PySem.EqNone.eq_none_none (fin_bl I q (by simp))
    | bl j => cases ry; exact PySem.EqNone.eq_none_bool (fin_bl I q (by simp))
    | int j => obtain ⟨t', rfl⟩ := ry; exact PySem.EqNone.eq_none_int (fin_bl I q (by simp))
    | str j => obtain ⟨t', rfl⟩ := ry; exact PySem.EqNone.eq_none_str (fin_bl I q (by simp))
    | _ => exact absurd (show false = true from hs) Bool.false_ne_true
  | bl i =>
    cases rx
    cases y with
    | non => cases ry; exact PySem.EqNone.eq_bool_none (fin_bl I q (by simp))
    | bl j => cases ry; exact eq_bool (fin_bl I q dec_bl)
    | str j => obtain ⟨t', rfl⟩ := ry; exact PySem.EqMixed.eq_bool_str (fin_bl I q (by simp))
    | _ => exact absurd (show false = true from hs) Bool.false_ne_true
  | int i =>
    obtain ⟨t, rfl⟩ := rx
    cases y with
    | non => cases ry; exact PySem.EqNone.eq_int_none (fin_bl I q (by simp))
    | int j => obtain ⟨t', rfl⟩ := ry; exact eq_int (fin_bl I q dec_int)
    | str j => obtain ⟨t', rfl⟩ := ry; exact PySem.EqMixed.eq_int_str (fin_bl I q (by simp))
    | _ => exact absurd (show false = true from hs) Bool.false_ne_true
  | str i =>
    obtain ⟨t, rfl⟩ := rx
    cases y with
    | non => cases ry; exact PySem.EqNone.eq_str_none (fin_bl I q (by simp))
    | bl j => cases ry; exact PySem.EqMixed.eq_str_bool (fin_bl I q (by simp))
    | int j => obtain ⟨t', rfl⟩ := ry; exact PySem.EqMixed.eq_str_int (fin_bl I q (by simp))
    | str j => obtain ⟨t', rfl⟩ := ry; exact eq_str (fin_bl I q dec_str)
    | _ => exact absurd (show false = true from hs) Bool.false_ne_true
  | byt i =>
    obtain ⟨t, rfl⟩ := rx
    cases y with
    | byt j => obtain ⟨t', rfl⟩ := ry; exact PySem.W.eq_bytes (fin_bl I q dec_byt)
    | _ => exact absurd (show false = true from hs) Bool.false_ne_true
  | _ => cases y <;> exact absurd (show false = true from hs) Bool.false_ne_true
theorem op_ne : OpR X (compareOp .NotEq) rNe := by
  intro pins s σ H x y v u Q I rx ry h
  obtain ⟨hs, q⟩ := h
  cases x with
  | non =>
    cases rx
    cases y with
    | non => cases ry; exact PySem.EqNone.ne_none_none (fin_bl I q (by simp))
    | bl j => cases ry; exact PySem.EqNone.ne_none_bool (fin_bl I q (by simp))
    | int j => obtain ⟨t', rfl⟩ := ry; exact PySem.EqNone.ne_none_int (fin_bl I q (by simp))
    | str j => obtain ⟨t', rfl⟩ := ry; exact PySem.EqNone.ne_none_str (fin_bl I q (by simp))
    | _ => exact absurd (show false = true from hs) Bool.false_ne_true
  | bl i =>
    cases rx
    cases y with
    | non => cases ry; exact PySem.EqNone.ne_bool_none (fin_bl I q (by simp))
    | bl j => cases ry; exact ne_bool (fin_bl I q (congrArg not dec_bl))
    | str j => obtain ⟨t', rfl⟩ := ry; exact PySem.EqMixed.ne_bool_str (fin_bl I q (by simp))
    | _ => exact absurd (show false = true from hs) Bool.false_ne_true
  | int i =>
    obtain ⟨t, rfl⟩ := rx
    cases y with
    | non => cases ry; exact PySem.EqNone.ne_int_none (fin_bl I q (by simp))
    | int j => obtain ⟨t', rfl⟩ := ry; exact ne_int (fin_bl I q (congrArg not dec_int))
    | str j => obtain ⟨t', rfl⟩ := ry; exact PySem.EqMixed.ne_int_str (fin_bl I q (by simp))
    | _ => exact absurd (show false = true from hs) Bool.false_ne_true
  | str i =>
    obtain ⟨t, rfl⟩ := rx
    cases y with
    | non => cases ry; exact PySem.EqNone.ne_str_none (fin_bl I q (by simp))
    | bl j => cases ry; exact PySem.EqMixed.ne_str_bool (fin_bl I q (by simp))
    | int j => obtain ⟨t', rfl⟩ := ry; exact PySem.EqMixed.ne_str_int (fin_bl I q (by simp))
    | str j => obtain ⟨t', rfl⟩ := ry; exact ne_str (fin_bl I q (congrArg not dec_str))
    | _ => exact absurd (show false = true from hs) Bool.false_ne_true
  | byt i =>
    obtain ⟨t, rfl⟩ := rx
    cases y with
    | byt j => obtain ⟨t', rfl⟩ := ry; exact PySem.W.ne_bytes (fin_bl I q (congrArg not dec_byt))
    | _ => exact absurd (show false = true from hs) Bool.false_ne_true
  | _ => cases y <;> exact absurd (show false = true from hs) Bool.false_ne_true

theorem op_lt : OpR X (compareOp .Lt) (rI0 fun i j => .bl (decide (i < j))) := opB0 fun _ _ _ _ _ _ _ q => lt_int q
theorem op_le : OpR X (compareOp .LtE) (rI0 fun i j => .bl (decide (i ≤ j))) := opB0 fun _ _ _ _ _ _ _ q => le_int q
theorem op_gt : OpR X (compareOp .Gt) (rI0 fun i j => .bl (decide (j < i))) := opB0 fun _ _ _ _ _ _ _ q => gt_int q
theorem op_ge : OpR X (compareOp .GtE) (rI0 fun i j => .bl (decide (j ≤ i))) := opB0 fun _ _ _ _ _ _ _ q => ge_int q
theorem op_lt_str : OpR X (compareOp .Lt) (fun x y H Q => ∃ i j, x = .str i ∧ y = .str j ∧ Q (.bl (decide (i.cps.toList < j.cps.toList))) H) := by
  intro pins s σ H x y v u Q I rx ry h
  obtain ⟨i, j, rfl, rfl, q⟩ := h
  obtain ⟨t, rfl⟩ := rx
  obtain ⟨t', rfl⟩ := ry
  exact lt_str (fin_bl I q rfl)
/-- the one string within the other -/
theorem op_in_str : OpR X (compareOp .In) (fun x y H Q => ∃ i j, x = .str i ∧ y = .str j ∧ Q (.bl (!(Builtin.Str.occurrences j i 0 j.length 1).isEmpty)) H) := by
  intro pins s σ H x y v u Q I rx ry h
  obtain ⟨i, j, rfl, rfl, q⟩ := h
  obtain ⟨t, rfl⟩ := rx
  obtain ⟨t', rfl⟩ := ry
  exact in_str (fin_bl I q rfl)

/-- is None, is not None: the right side a value none -/
theorem op_isN : OpR X (compareOp .Is) (fun x y H Q => y = .non ∧ Q (.bl (decide (x = .non))) H) := by
  intro pins s σ H x y v u Q I rx ry h
  obtain ⟨rfl, q⟩ := h
  cases ry
  refine is_none_gen (fin_bl I q ?_)
  cases x <;> first
    | (cases rx; rfl)
    | (obtain ⟨t, rfl⟩ := rx; rfl)
theorem op_notN : OpR X (compareOp .IsNot) (fun x y H Q => y = .non ∧ Q (.bl (!decide (x = .non))) H) := by
  intro pins s σ H x y v u Q I rx ry h
  obtain ⟨rfl, q⟩ := h
  cases ry
  refine isnot_none_gen (fin_bl I q ?_)
  cases x <;> first
    | (cases rx; rfl)
    | (obtain ⟨t, rfl⟩ := rx; rfl)

theorem op_notin_str : OpR X (compareOp .NotIn) (fun x y H Q => ∃ i j, x = .str i ∧ y = .str j ∧ Q (.bl (!(!(Builtin.Str.occurrences j i 0 j.length 1).isEmpty))) H) := by
  intro pins s σ H x y v u Q I rx ry h
  obtain ⟨i, j, rfl, rfl, q⟩ := h
  obtain ⟨t, rfl⟩ := rx
  obtain ⟨t', rfl⟩ := ry
  exact notIn_str (fin_bl I q rfl)
/-- is, is not of two objects that are tracked lists or instances -/
def isObj : HO → Bool
  | .lst _ => true
  | .ins _ _ _ => true
  | _ => false
theorem obj_there {pins : List (Addr × Obj)} {s : Shared} {σ : St} {H : Hp} {a : Addr} {o : HO} (I : Inv X pins σ H s) (h : H a = some o) (p : isObj o = true) : ∃ ob, s.heap.get? a = some ob ∧ ob.cls ≠ .type "tuple" := by
  cases o with
  | lst xs =>
    obtain ⟨_, its, n, _, e⟩ : xs.length ≤ sizeLine ∧ ∃ (its : List Value) (n : Nat), Vals xs its ∧ s.heap.get? a = some { cls := .type "list", data := .seq its.toArray n } := I.hok a _ h
    exact ⟨_, e, (by show Value.type "list" ≠ .type "tuple"; decide +kernel)⟩
  | ins C dx fs =>
    have x := I.hok a _ h
    obtain ⟨_, _, _, e, _⟩ := x
    exact ⟨_, e, (by show Value.ref C ≠ .type "tuple"; exact fun z => by cases z)⟩
  | _ => exact absurd (show false = true from p) Bool.false_ne_true
theorem op_is_ref : OpR X (compareOp .Is) (fun x y H Q => ∃ a b oa ob, x = .ref a ∧ y = .ref b ∧ H a = some oa ∧ isObj oa = true ∧ H b = some ob ∧ isObj ob = true ∧ Q (.bl (decide (a = b))) H) := by
  intro pins s σ H x y v u Q I rx ry h
  obtain ⟨a, b, oa, ob, rfl, rfl, ha, pa, hb, pb, q⟩ := h
  cases rx
  cases ry
  obtain ⟨o1, e1, n1⟩ := obj_there I ha pa
  obtain ⟨o2, e2, _⟩ := obj_there I hb pb
  by_cases z : a = b
  · subst z
    exact wpAny_is_ref_self (fin_bl I q (by simp))
  · exact wpAny_is_ref_other z e1 e2 n1 (fin_bl I q (by simp [z]))
theorem op_isnot_ref : OpR X (compareOp .IsNot) (fun x y H Q => ∃ a b oa ob, x = .ref a ∧ y = .ref b ∧ H a = some oa ∧ isObj oa = true ∧ H b = some ob ∧ isObj ob = true ∧ Q (.bl (!decide (a = b))) H) := by
  intro pins s σ H x y v u Q I rx ry h
  obtain ⟨a, b, oa, ob, rfl, rfl, ha, pa, hb, pb, q⟩ := h
  cases rx
  cases ry
  obtain ⟨o1, e1, n1⟩ := obj_there I ha pa
  obtain ⟨o2, e2, _⟩ := obj_there I hb pb
  by_cases z : a = b
  · subst z
    exact wpAny_isNot_ref_self (fin_bl I q (by simp))
  · exact wpAny_isNot_ref_other z e1 e2 n1 (fin_bl I q (by simp [z]))

/-- two rules for one operation: by cases -/
theorem OpR.or {f : Value → Value → Sem Value} {r r' : R2} (h : OpR X f r) (h' : OpR X f r') : OpR X f (fun x y H Q => r x y H Q ∨ r' x y H Q) := by
  intro pins s σ H x y v u Q I rx ry q
  rcases q with q | q
  · exact h pins s σ H x y v u Q I rx ry q
  · exact h' pins s σ H x y v u Q I rx ry q

theorem nomark (b : Expr) {op : CmpOp} (h : op ≠ .In := by decide) (h2 : op ≠ .NotIn := by decide) : behindInMarks op b = false := by
  have e1 : (op == CmpOp.In) = false := by cases op <;> first | rfl | exact absurd rfl h
  have e2 : (op == CmpOp.NotIn) = false := by cases op <;> first | rfl | exact absurd rfl h2
  cases b <;> simp [behindInMarks, e1, e2]
/-- a comparison as a value; hm: nomark b, or (for in, not in) by with_unfolding_all rfl -/
theorem pe_cmpR {op : CmpOp} {r : R2} (ho : OpR X (compareOp op) r) (ha : PE X a ta) (hb : PE X b tb) (hm : behindInMarks op b = false) : PE X (.Compare a [op] [b] pos) (tOp r ta tb) := by
  intro pins s σ H Q I h
  exact wpAny_Compare1 (binT ha hb I h fun v u s2 x y H2 I2 rx ry q => ho pins s2 σ H2 x y v u Q I2 rx ry q) hm
/-- a reading of a value as a test -/
def tTest (t : TE) : TT := fun σ H Q => t σ H fun x H' => ∃ k, x = .bl k ∧ Q k H'
theorem pt_cmpR {op : CmpOp} {r : R2} (ho : OpR X (compareOp op) r) (ha : PE X a ta) (hb : PE X b tb) (hm : behindInMarks op b = false) : PT X (.Compare a [op] [b] pos) (tTest (tOp r ta tb)) := by
  intro pins s σ H Q I h
  refine wpAny_isTrue_Compare1 (thn (ha pins s σ H _ I h) fun v s1 ⟨x, H1, I1, r1, q1⟩ => thn (hb pins s1 σ H1 _ I1 q1) fun u s2 ⟨y, H2, I2, r2, q2⟩ =>
    thn (ho pins s2 σ H2 x y v u _ I2 r1 r2 q2) fun c s3 ⟨z, H3, I3, r3, k, e, q3⟩ => ?_) hm
  subst e
  cases r3
  exact wpAny_truthy_bool ⟨H3, I3, q3⟩
/-- a op1 b op2 c -/
def tChain (r r' : R2) (ta tb tc : TE) : TE := fun σ H Q => ta σ H fun x H1 => tb σ H1 fun y H2 => r x y H2 fun z H3 => ∃ k, z = .bl k ∧
  (if k = true then tc σ H3 fun w' H4 => r' y w' H4 Q else Q (.bl false) H3)
theorem pe_chain {op op' : CmpOp} {r r' : R2} (ho : OpR X (compareOp op) r) (ho' : OpR X (compareOp op') r') (ha : PE X a ta) (hb : PE X b tb) (hc : PE X c tc)
    (hm : lastMarks [op, op'] [b, c] = false := by with_unfolding_all rfl) : PE X (.Compare a [op, op'] [b, c] pos) (tChain r r' ta tb tc) := by
  intro pins s σ H Q I h
  refine Compare_chain (thn (ha pins s σ H _ I h) fun v s1 ⟨x, H1, I1, r1, q1⟩ => chain_link (thn (hb pins s1 σ H1 _ I1 q1) fun u s2 ⟨y, H2, I2, r2, q2⟩ =>
    thn (ho pins s2 σ H2 x y v u _ I2 r1 r2 q2) fun d s3 ⟨z, H3, I3, r3, k, e, q3⟩ => ?_)) hm
  subst e
  cases r3
  refine wpAny_truthy_bool ?_
  cases k with
  | false => exact ite_ff ⟨.bl false, H3, I3, rfl, q3⟩
  | true => exact ite_tt (chain_last (thn (hc pins s3 σ H3 _ I3 q3) fun w' s4 ⟨z', H4, I4, r4, q4⟩ => ho' pins s4 σ H4 y z' u w' Q I4 r2 r4 q4))
theorem pt_chain {op op' : CmpOp} {r r' : R2} (ho : OpR X (compareOp op) r) (ho' : OpR X (compareOp op') r') (ha : PE X a ta) (hb : PE X b tb) (hc : PE X c tc)
    (hm : lastMarks [op, op'] [b, c] = false := by with_unfolding_all rfl) : PT X (.Compare a [op, op'] [b, c] pos) (tTest (tChain r r' ta tb tc)) := by
  intro pins s σ H Q I h
  refine isTrue_chain (thn (ha pins s σ H _ I h) fun v s1 ⟨x, H1, I1, r1, q1⟩ => test_link (thn (hb pins s1 σ H1 _ I1 q1) fun u s2 ⟨y, H2, I2, r2, q2⟩ =>
    thn (ho pins s2 σ H2 x y v u _ I2 r1 r2 q2) fun d s3 ⟨z, H3, I3, r3, k, e, q3⟩ => ?_)) hm
  subst e
  cases r3
  refine wpAny_truthy_bool ?_
  cases k with
  | false =>
    obtain ⟨k', e', q'⟩ := q3
    cases e'
    exact ite_ff ⟨H3, I3, q'⟩
  | true =>
    refine ite_tt (test_last (thn (hc pins s3 σ H3 _ I3 q3) fun w' s4 ⟨z', H4, I4, r4, q4⟩ => thn (ho' pins s4 σ H4 y z' u w' _ I4 r2 r4 q4) fun d' s5 ⟨z2, H5, I5, r5, k2, e2, q5⟩ => ?_))
    subst e2
    cases r5
    exact wpAny_truthy_bool ⟨H5, I5, q5⟩

/-! ### truth -/
/-- a value's truth by the abstract heap -/
def TruV (K : PySem.W.Frag) (x : V) (H : Hp) (k : Bool) : Prop :=
  match x with
  | .non => k = false
  | .bl b => k = b
  | .int i => k = (i != 0)
  | .str y => y.length ≤ sizeLine ∧ k = ((y.length : Int) != 0)
  | .byt y => y.size ≤ sizeLine ∧ k = ((y.size : Int) != 0)
  | .ref p => (∃ xs, SqL K H p xs ∧ k = !xs.isEmpty) ∨ (∃ xs, SqT K H p xs ∧ k = !xs.isEmpty) ∨ ∃ kvs, H p = some (.dK kvs) ∧ k = !kvs.isEmpty
  | _ => False
theorem isEmpty_kv {κ : Type} {kvs : List (κ × V)} {vs : List (κ × Value)} (r : KV kvs vs) : (!vs.isEmpty) = !kvs.isEmpty := by
  cases r <;> rfl
theorem isEmpty_of {xs : List V} {its : List Value} (r : Vals xs its) : (!its.toArray.isEmpty) = !xs.isEmpty := by
  cases r <;> simp
theorem line63 : (sizeLine : Nat) < 2 ^ 63 := by rw [sizeLine_eq]; decide
theorem tru_ok : TruR X (fun x H Q => ∃ k, TruV X.K x H k ∧ Q k H) := by
  intro pins s σ H x v Q I rx h
  obtain ⟨k, e, q⟩ := h
  have hl := line63
  have hs : sizeLine = 16777216 := sizeLine_eq
  cases x with
  | non =>
    cases rx
    have e' : k = false := e
    subst e'
    exact truthy_none ⟨H, I, q⟩
  | bl b =>
    cases rx
    have e' : k = b := e
    subst e'
    exact wpAny_truthy_bool ⟨H, I, q⟩
  | int i =>
    obtain ⟨t, rfl⟩ := rx
    have e' : k = (i != 0) := e
    subst e'
    exact PySem.P.truthy_int ⟨H, I, q⟩
  | str y =>
    obtain ⟨t, rfl⟩ := rx
    obtain ⟨hy, e'⟩ : y.length ≤ sizeLine ∧ k = ((y.length : Int) != 0) := e
    subst e'
    exact PySem.P.truthy_str (by omega) ⟨H, I.tok _, q⟩
  | byt y =>
    obtain ⟨t, rfl⟩ := rx
    obtain ⟨hy, e'⟩ : y.size ≤ sizeLine ∧ k = ((y.size : Int) != 0) := e
    subst e'
    exact PySem.W.truthy_bytes (by omega) ⟨H, I.tok _, q⟩
  | ref p =>
    cases rx
    have e' : (∃ xs, SqL X.K H p xs ∧ k = !xs.isEmpty) ∨ (∃ xs, SqT X.K H p xs ∧ k = !xs.isEmpty) ∨ ∃ kvs, H p = some (.dK kvs) ∧ k = !kvs.isEmpty := e
    rcases e' with ⟨xs, hx, e'⟩ | ⟨xs, hx, e'⟩ | ⟨kvs, hx, e'⟩
    · subst e'
      obtain ⟨its, r, pl, hz⟩ := I.list hx
      have hlen := r.length
      exact wpAny_truthy_list pl.isList (by simp only [List.size_toArray]; omega) ⟨H, I.tok _, by rw [isEmpty_of r]; exact q⟩
    · subst e'
      obtain ⟨its, r, pl, hz⟩ := I.tuple hx
      have hlen := r.length
      exact truthy_tuple pl (by simp only [List.size_toArray]; omega) ⟨H, I.tok _, by rw [isEmpty_of r]; exact q⟩
    · subst e'
      obtain ⟨hz, hS, vs, r, m⟩ : kvs.length ≤ sizeLine ∧ (p == sysModules) = false ∧ ∃ vs, KV kvs vs ∧ s.heap.DictOf (mixKind X.prog X.w) p vs := I.hok p _ hx
      have hlen : kvs.length = vs.length := Paired.length r
      exact wpAny_truthy_dict hS m (by omega) ⟨H, I.tok _, by rw [isEmpty_kv r]; exact q⟩
  | _ => exact (show False from e).elim
/-- any expression whose test is its value's truth (a name, a call, a subscript, a field ..: he by fun _ => rfl) -/
theorem pt_truth (ha : PE X a ta) (he : ∀ whole, isTrue a X.env whole = (do let v ← whole; standAt a.pos; holding [v] (truthy v))) :
    PT X a (fun σ H Q => ta σ H fun x H' => ∃ k, TruV X.K x H' k ∧ Q k H') := by
  intro pins s σ H Q I h
  exact isTrue_plain (thn (ha pins s σ H _ I h) fun v s1 ⟨x, H1, I1, r1, q1⟩ => tru_ok pins s1 σ H1 x v Q I1 r1 q1) (he _)

/-! ### strs and bytes -/
theorem pe_byt {x : List UInt8} {k : Nat} : PE X (.Constant (.bytes x) k pos) (fun _ H Q => Q (.byt x.toArray) H) := fun _ _ _ H _ I h => PySem.W.Constant_bytes ⟨.byt x.toArray, H, I.tok _, ⟨_, rfl⟩, h⟩
theorem op_add_str : OpR X (binaryOp .Add) (fun x y H Q => ∃ i j, x = .str i ∧ y = .str j ∧ i.length + j.length ≤ sizeLine ∧ Q (.str (i ++ j)) H) := by
  intro pins s σ H x y v u Q I rx ry h
  obtain ⟨i, j, rfl, rfl, hz, q⟩ := h
  obtain ⟨t, rfl⟩ := rx
  obtain ⟨t', rfl⟩ := ry
  exact add_str (fun t' tk => ⟨.str (i ++ j), H, I.tok _, ⟨_, rfl⟩, q⟩) hz
theorem iop_add_str : OpR X (inplaceOp .Add) (fun x y H Q => ∃ i j, x = .str i ∧ y = .str j ∧ i.length + j.length ≤ sizeLine ∧ Q (.str (i ++ j)) H) := by
  intro pins s σ H x y v u Q I rx ry h
  obtain ⟨i, j, rfl, rfl, hz, q⟩ := h
  obtain ⟨t, rfl⟩ := rx
  obtain ⟨t', rfl⟩ := ry
  exact iadd_str (fun t' tk => ⟨.str (i ++ j), H, I.tok _, ⟨_, rfl⟩, q⟩) hz
theorem op_add_byt : OpR X (binaryOp .Add) (fun x y H Q => ∃ i j, x = .byt i ∧ y = .byt j ∧ i.size + j.size ≤ 16777216 ∧ Q (.byt (i ++ j)) H) := by
  intro pins s σ H x y v u Q I rx ry h
  obtain ⟨i, j, rfl, rfl, hz, q⟩ := h
  obtain ⟨t, rfl⟩ := rx
  obtain ⟨t', rfl⟩ := ry
  exact PySem.W.KBy.add_bytes hz (fun t' tk => ⟨.byt (i ++ j), H, I.tok _, ⟨_, rfl⟩, q⟩)

def PlainIxT (b : Expr) : Prop := ∀ o i, subscripted b false o i = operate [o, i] (getItem o i)
/-- s[i], 0 ≤ i < len -/
theorem pe_item_str (ha : PE X a ta) (hb : PE X b tb) (hs : PlainIxT b) :
    PE X (.Subscript a b pos) (tOp (fun x y H Q => ∃ z i c, x = .str z ∧ y = .int i ∧ 0 ≤ i ∧ i < 2 ^ 63 ∧ i < z.length ∧ z.cps[i.toNat]? = some c ∧ Q (.str ⟨#[c]⟩) H) ta tb) := by
  intro pins s σ H Q I h
  refine Subscript_ (binT ha hb I h fun v u s2 x y H2 I2 rx ry q => ?_)
  obtain ⟨z, i, c, rfl, rfl, h0, h63, h1, hc, q⟩ := q
  obtain ⟨t, rfl⟩ := rx
  obtain ⟨t', rfl⟩ := ry
  have e : seqIndex? i z.length = some i.toNat := PySem.StrLaws.seqIndex_nonneg h0 h1
  exact tail_any (typeIs_str s2 z t) slot_str_getitem.lookup (getItem_str (c := c) (by
    have e1 : decide (i < -(2 ^ 63 : Int)) = false := decide_eq_false (by omega)
    have e2 : decide (i ≥ 2 ^ 63) = false := decide_eq_false (by omega)
    rw [e1, e2] <;> rfl) (by rw [e]; exact hc) ⟨.str ⟨#[c]⟩, H2, I2.tok _, ⟨_, rfl⟩, q⟩) (hs _ _)
/-- b[i], 0 ≤ i < len -/
theorem pe_item_byt (ha : PE X a ta) (hb : PE X b tb) (hs : PlainIxT b) :
    PE X (.Subscript a b pos) (tOp (fun x y H Q => ∃ (z : List UInt8) (i : Int), x = .byt z.toArray ∧ y = .int i ∧ z.length ≤ sizeLine ∧ 0 ≤ i ∧ i < z.length ∧ Q (.int ((z.getD i.toNat 0).toNat : Nat)) H) ta tb) := by
  intro pins s σ H Q I h
  refine Subscript_ (binT ha hb I h fun v u s2 x y H2 I2 rx ry q => ?_)
  obtain ⟨z, i, rfl, rfl, hz, h0, h1, q⟩ := q
  obtain ⟨t, rfl⟩ := rx
  obtain ⟨t', rfl⟩ := ry
  have hl : sizeLine = 16777216 := sizeLine_eq
  exact tail_any (PySem.W.typeIs_bytes s2 z.toArray t) PySem.W.FB.slot_bytes_getitem.lookup (PySem.W.getItem_bytes (by omega) h0 h1 ⟨.int ((z.getD i.toNat 0).toNat : Nat), H2, I2.tok _, ⟨_, rfl⟩, q⟩) (hs _ _)

/-! ### scalar builtins, by CallR -/
theorem vals1 {x : V} {us : List Value} (r : Vals [x] us) : ∃ u, us = [u] ∧ RelV x u := by
  cases r with
  | cons r1 r2 => cases r2; exact ⟨_, rfl, r1⟩
theorem vals2 {x y : V} {us : List Value} (r : Vals [x, y] us) : ∃ u w', us = [u, w'] ∧ RelV x u ∧ RelV y w' := by
  cases r with
  | cons r1 r2 =>
    cases r2 with
    | cons r3 r4 => cases r4; exact ⟨_, _, rfl, r1, r3⟩
theorem call_abs : CallR X (.builtin "abs") (fun xs H Q => ∃ i, xs = [.int i] ∧ Q (.int (if i < 0 then -i else i)) H) := by
  intro pins s σ H xs us Q I r h
  obtain ⟨i, rfl, q⟩ := h
  obtain ⟨u, rfl, t, rfl⟩ := vals1 r
  exact call_abs_int fun u tk => ⟨.int (if i < 0 then -i else i), H, I.tok _, ⟨_, rfl⟩, q⟩
theorem call_max2 (hc : X.calm = true) : CallR X (.builtin "max") (fun xs H Q => ∃ i j, xs = [.int i, .int j] ∧ Q (.int (if j > i then j else i)) H) := by
  intro pins s σ H xs us Q I r h
  obtain ⟨i, j, rfl, q⟩ := h
  obtain ⟨u, w', rfl, ⟨t, rfl⟩, ⟨t', rfl⟩⟩ := vals2 r
  refine max_two_ints (I.ok.hd hc) fun h' tk k => ⟨_, H, I.kept k, ?_, q⟩
  by_cases hj : j > i
  · rw [if_pos hj, if_pos hj]; exact ⟨_, rfl⟩
  · rw [if_neg hj, if_neg hj]; exact ⟨_, rfl⟩
theorem call_min2 (hc : X.calm = true) : CallR X (.builtin "min") (fun xs H Q => ∃ i j, xs = [.int i, .int j] ∧ Q (.int (if j < i then j else i)) H) := by
  intro pins s σ H xs us Q I r h
  obtain ⟨i, j, rfl, q⟩ := h
  obtain ⟨u, w', rfl, ⟨t, rfl⟩, ⟨t', rfl⟩⟩ := vals2 r
  refine min_two_ints (I.ok.hd hc) fun h' tk k => ⟨_, H, I.kept k, ?_, q⟩
  by_cases hj : j < i
  · rw [if_pos hj, if_pos hj]; exact ⟨_, rfl⟩
  · rw [if_neg hj, if_neg hj]; exact ⟨_, rfl⟩
theorem call_int1 : CallR X (.type "int") (fun xs H Q => (∃ i, xs = [.int i] ∧ Q (.int i) H) ∨ ∃ k, xs = [.bl k] ∧ Q (.int (if k then 1 else 0)) H) := by
  intro pins s σ H xs us Q I r h
  rcases h with ⟨i, rfl, q⟩ | ⟨k, rfl, q⟩
  · obtain ⟨u, rfl, t, rfl⟩ := vals1 r
    exact call_int_int ⟨.int i, H, I, ⟨_, rfl⟩, q⟩
  · obtain ⟨u, rfl, r1⟩ := vals1 r
    cases r1
    exact call_int_bool ⟨.int (if k then 1 else 0), H, I.tok _, ⟨_, rfl⟩, q⟩
theorem call_bool1 : CallR X (.type "bool") (fun xs H Q => (∃ i, xs = [.int i] ∧ Q (.bl (i != 0)) H) ∨ ∃ k, xs = [.bl k] ∧ Q (.bl k) H) := by
  intro pins s σ H xs us Q I r h
  rcases h with ⟨i, rfl, q⟩ | ⟨k, rfl, q⟩
  · obtain ⟨u, rfl, t, rfl⟩ := vals1 r
    exact call_bool_int ⟨.bl (i != 0), H, I, rfl, q⟩
  · obtain ⟨u, rfl, r1⟩ := vals1 r
    cases r1
    exact call_bool_bool ⟨.bl k, H, I, rfl, q⟩
theorem call_str_int : CallR X (.type "str") (fun xs H Q => ∃ i, xs = [.int i] ∧ i.natAbs.log2 < 1920 ∧ Q (.str (toString i)) H) := by
  intro pins s σ H xs us Q I r h
  obtain ⟨i, rfl, hz, q⟩ := h
  obtain ⟨u, rfl, t, rfl⟩ := vals1 r
  exact PySem.P.str_of_int hz ⟨.str _, H, I.tok _, ⟨_, rfl⟩, q⟩
theorem call_ord : CallR X (.builtin "ord") (fun xs H Q => ∃ x, xs = [.str x] ∧ x.length = 1 ∧ Q (.int (x.cps.getD 0 0 : Nat)) H) := by
  intro pins s σ H xs us Q I r h
  obtain ⟨x, rfl, hz, q⟩ := h
  obtain ⟨u, rfl, t, rfl⟩ := vals1 r
  exact ord_of_one hz ⟨.int _, H, I.tok _, ⟨_, rfl⟩, q⟩
theorem call_chr : CallR X (.builtin "chr") (fun xs H Q => ∃ i, xs = [.int i] ∧ 0 ≤ i ∧ i ≤ 1114111 ∧ Q (.str ⟨#[i.toNat]⟩) H) := by
  intro pins s σ H xs us Q I r h
  obtain ⟨i, rfl, h0, h1, q⟩ := h
  obtain ⟨u, rfl, t, rfl⟩ := vals1 r
  exact chr_of_range h0 h1 ⟨.str _, H, I.tok _, ⟨_, rfl⟩, q⟩
/-- len of a str, a bytes, a list, a tuple -/
def LenV (K : PySem.W.Frag) (x : V) (H : Hp) (n : Nat) : Prop :=
  match x with
  | .str y => y.length ≤ sizeLine ∧ n = y.length
  | .byt y => y.size ≤ sizeLine ∧ n = y.size
  | .ref p => (∃ xs, SqL K H p xs ∧ n = xs.length) ∨ ∃ xs, SqT K H p xs ∧ n = xs.length
  | _ => False
theorem call_len : CallR X (.builtin "len") (fun xs H Q => ∃ x n, xs = [x] ∧ LenV X.K x H n ∧ Q (.int n) H) := by
  intro pins s σ H xs us Q I r h
  obtain ⟨x, n, rfl, e, q⟩ := h
  obtain ⟨u, rfl, rx⟩ := vals1 r
  have hl := line63
  have hs : sizeLine = 16777216 := sizeLine_eq
  cases x with
  | str y =>
    obtain ⟨t, rfl⟩ := rx
    obtain ⟨hy, e'⟩ : y.length ≤ sizeLine ∧ n = y.length := e
    subst e'
    exact len_str (by omega) ⟨.int _, H, I.tok _, ⟨_, rfl⟩, q⟩
  | byt y =>
    obtain ⟨t, rfl⟩ := rx
    obtain ⟨hy, e'⟩ : y.size ≤ sizeLine ∧ n = y.size := e
    subst e'
    exact PySem.W.len_bytes (by omega) ⟨.int _, H, I.tok _, ⟨_, rfl⟩, q⟩
  | ref p =>
    cases rx
    have e' : (∃ xs, SqL X.K H p xs ∧ n = xs.length) ∨ ∃ xs, SqT X.K H p xs ∧ n = xs.length := e
    rcases e' with ⟨xs, hx, e'⟩ | ⟨xs, hx, e'⟩
    · subst e'
      obtain ⟨its, r', pl, hz⟩ := I.list hx
      have hlen := r'.length
      exact Calls.call_len_list pl.isList (by simp only [List.size_toArray]; omega) ⟨.int xs.length, H, I.tok _, ⟨_, by simp only [List.size_toArray]; rw [hlen]⟩, q⟩
    · subst e'
      obtain ⟨its, r', pl, hz⟩ := I.tuple hx
      have hlen := r'.length
      exact len_tuple pl (by simp only [List.size_toArray]; omega) ⟨.int xs.length, H, I.tok _, ⟨_, by simp only [List.size_toArray]; rw [hlen]⟩, q⟩
  | _ => exact (show False from e).elim
/-- divmod: a new tuple -/
theorem call_divmod : CallR X (.builtin "divmod") (fun xs H Q => ∃ i j, xs = [.int i, .int j] ∧ CDiv i j ∧ ∀ p, H p = none → Q (.ref p) (upd H p (.tup [.int (i / j), .int (i % j)]))) := by
  intro pins s σ H xs us Q I r h
  obtain ⟨i, j, rfl, ⟨h1, h2⟩, q⟩ := h
  obtain ⟨u, w', rfl, ⟨t, rfl⟩, ⟨t', rfl⟩⟩ := vals2 r
  refine divmod_int (by omega) ?_ (.inl (PyProof.noPylong_small (by omega)))
  rw [Int.fdiv_eq_ediv_of_nonneg i (by omega), Int.fmod_eq_emod_of_nonneg i (by omega)]
  have hn : H s.heap.objs.size = none := I.hok.fresh (Nat.le_refl _)
  refine ⟨.ref s.heap.objs.size, _, ?_, rfl, q _ hn⟩
  refine I.laid (fun b o e => Heap.get?_push_of_some _ e) (Nat.le_refl _) ⟨by simp only [List.length_cons, List.length_nil]; rw [sizeLine_eq]; decide, [.int (i / j) s.toks, .int (i % j) (s.toks + 1)], .cons ⟨_, rfl⟩ (.cons ⟨_, rfl⟩ .nil), ?_⟩
  exact ⟨_, Heap.get?_push_size s.heap rfl, rfl, 0, rfl⟩
end
end L2

namespace L2
open PySem PySem.Spec PyProof.Rows

/-! ### an instance, its attributes a map -/
structure ObjM (h : Heap) (x dx C : Addr) (mA : Str → Option Value) : Prop where
  obj : h.get? x = some (PySem.W.instObj C dx)
  ns : h.Ns1 dx mA
  ne : dx ≠ x

theorem lookIn_ns {h : Heap} {dx : Addr} {mA : Str → Option Value} (n : h.Ns1 dx mA) : ∃ od, h.get? dx = some od ∧ ∀ name, PySem.W.lookIn name od = some (mA name) := by
  obtain ⟨o, es, ep, ho, hd, hk, _, hm⟩ := n
  refine ⟨o, ho, fun name => ?_⟩
  have e := hm name
  unfold nsFind findBy at e
  rw [← Array.find?_toList] at e
  unfold PySem.W.lookIn
  rw [hd]
  dsimp only
  split
  · rename_i y q
    rw [q] at e
    exact congrArg some e
  · rename_i q
    rw [q] at e
    have a : es.toList.any (·.refKey) = false := by
      rw [List.any_eq_false]
      intro y hy
      obtain ⟨z, t, hkey⟩ := hk y (Array.mem_toList_iff.mp hy)
      simp [DictEntry.refKey, hkey]
    have a' : ¬ es.toList.any (·.refKey) = true := by rw [a]; exact Bool.false_ne_true
    rw [if_neg a']
    exact congrArg some e

theorem ObjM.look {h : Heap} {x dx C : Addr} {mA : Str → Option Value} (I : ObjM h x dx C mA) : ∃ od, PySem.W.InstAt h x (PySem.W.instObj C dx) C (some od) ∧ ∀ name, PySem.W.lookIn name od = some (mA name) :=
  let ⟨od, ho, hl⟩ := lookIn_ns I.ns
  ⟨od, ⟨I.obj, rfl, rfl, ho⟩, hl⟩

section
variable {prog : Program} {w : World} {A : Around} {E : Value → Shared → Prop} {s : Shared} {K : PySem.W.Frag} {x dx C f : Addr} {mA : Str → Option Value} {name : Str} {v : Value}

theorem get_map {expr : Bool} {Q : Value → Shared → Prop} (X : K.In s.heap) (I : ObjM s.heap x dx C mA) (hg : PySem.W.plainGet K C name = true) (hh : PySem.W.hasDictIn K C = true)
    (ha : PySem.W.findIn K (.ref C) name = some none) (hv : mA name = some v) (hv' : PySem.W.handedIn v = true) (h : Q v { s with toks := s.toks + 1 }) :
    wpAny (model prog w) A (getAttr (.ref x) name expr) Q E s := by
  obtain ⟨od, J, hl⟩ := I.look
  exact PySem.W.get_value X J (PySem.W.plainGet_of hg).1 (PySem.W.findObj_own hh ha rfl (by rw [hl, hv])) hv' h

theorem get_const {expr : Bool} {a : Value} {Q : Value → Shared → Prop} (X : K.In s.heap) (I : ObjM s.heap x dx C mA) (hg : PySem.W.plainGet K C name = true) (hh : PySem.W.hasDictIn K C = true)
    (ha : PySem.W.findIn K (.ref C) name = some (some a)) (hn : PySem.W.specialIn K a "__get__" = some none) (hc : PySem.W.copiedNames.contains name = false) (hv : mA name = none) (hv' : PySem.W.handedIn a = true)
    (h : Q a { s with toks := s.toks + 1 }) : wpAny (model prog w) A (getAttr (.ref x) name expr) Q E s := by
  obtain ⟨od, J, hl⟩ := I.look
  exact PySem.W.get_value X J (PySem.W.plainGet_of hg).1 (PySem.W.findObj_cls hh ha hn hv' hc (by rw [hl, hv])) hv' h

theorem get_meth {pl : Sem Bool} {Q : Value × List Value → Shared → Prop} (X : K.In s.heap) (I : ObjM s.heap x dx C mA) (hg : PySem.W.plainGet K C name = true)
    (hf : PySem.W.findIn K (.ref C) name = some (some (.ref f))) (ht : PySem.W.isFn K (.ref f) = true) (hv : mA name = none) (h : Q (.ref f, [.ref x]) s) :
    wpAny (model prog w) A (getMethod (.ref x) name pl) Q E s := by
  obtain ⟨od, J, hl⟩ := I.look
  exact PySem.W.method_fn X J (PySem.W.plainGet_of hg).1 (PySem.W.plainGet_of hg).2 hf (beq_iff_eq.mp ht) (by show (PySem.W.lookIn name od).map (·.isSome) = some false; rw [hl, hv]; rfl) h

theorem set_map {ns : List Str} {Q : Unit → Shared → Prop} (X : K.In s.heap) (I : ObjM s.heap x dx C mA)
    (hs : PySem.W.findIn K (.ref C) "__setattr__" = some (some (.builtin "object.__setattr__"))) (hp : PySem.W.plainOver K C = true) (ht : PySem.W.takerIn K C name = some none) (hh : PySem.W.hasDictIn K C = true)
    (hw : PySem.Within mA ns) (hsz : ns.length ≤ sizeLine)
    (h : ∀ h', ObjM h' x dx C (fun y => if y = name then some v else mA y) → Heap.SameBut dx s.heap h' → Q () { s with heap := h', toks := s.toks + 2 }) :
    wpAny (model prog w) A (setAttr (.ref x) name v) Q E s := by
  obtain ⟨od, J, hl⟩ := I.look
  refine PySem.W.set_plain X J hs (PySem.W.osa_open (s := { s with toks := s.toks + 1 }) (r := none) X J hp ht fun b => ?_)
  obtain ⟨cd, hc, hd'⟩ := PySem.W.any_some hh
  have hx : s.heap.get? x = some ⟨.ref C, some dx, .plain, #[]⟩ := I.obj
  refine wpAny_bind (wpAny_pure (wpAny_bind (wpAny_bind (wpAny_loadPart hx (wpAny_bind (PySem.W.Looks.here (s := { s with toks := s.toks + 1 }) (PySem.W.looks_clsIn X hc) ?_))))))
  rw [hd']
  refine wpAny_pure (a := some dx) (wpAny_bind (wpAny_pure (wpAny_bind ?_)))
  refine wpAny_nsSet1 (s := { s with toks := s.toks + 1 }) I.ns fun h' hn2 hs2 => ?_
  obtain ⟨oD, esD, epD, hoD, hdD, hcD⟩ := hn2.count (PySem.Within.cons name v hw)
  refine wpAny_bind (wpAny_lookBehind hoD (by rw [hdD]; exact pastItsLine_dict (Nat.le_trans hcD (by rw [List.length_cons]; omega))) ?_)
  exact wpAny_pure (h _ ⟨(hs2.2 _ (Ne.symm I.ne)).trans I.obj, hn2, I.ne⟩ hs2)

/-- C(..): the dict at the heap's end, the instance behind it; then its __init__ -/
theorem make_map {R : Result → Shared → Prop} {vs : List Value} {kw : List (Str × Value)} (X : K.In s.heap) (hm : PySem.W.makesIn K C = true)
    (hi : PySem.W.findIn K (.ref C) "__init__" = some (some (.ref f))) (hf : PySem.W.typeIn K (.ref f) = some (.type "function"))
    (h : codeAny (model prog w) (A.under (.builtin "type.__call__" ⟨.ref C :: vs, kw⟩)) (.call (.ref f) ⟨.ref (s.heap.objs.size + 1) :: vs, kw⟩) (PySem.W.InitBack (s.heap.objs.size + 1) R)
      { s with heap := (s.heap.push PySem.W.emptyDict).push (PySem.W.instObj C s.heap.objs.size) }) :
    codeAny (model prog w) A (.call (.ref C) ⟨vs, kw⟩) R s := by
  obtain ⟨hh, g, d, t, os⟩ := s
  exact PySem.W.make_core (PySem.W.makes_of X hm) (PySem.W.looks_findIn X hi) (fun self => PySem.W.bind_fn X self hf) (.inl rfl) h
/-- C() where there is no __init__ but object's -/
theorem make_map0 {R : Result → Shared → Prop} (X : K.In s.heap) (hm : PySem.W.makesIn K C = true)
    (hi : PySem.W.findIn K (.ref C) "__init__" = some (some (.builtin "object.__init__")))
    (hb : ∀ self, PySem.W.Looks (model prog w) s.heap (bindSpecial (.builtin "object.__init__") self) (.builtin "object.__init__", [self]))
    (h : codeAny (model prog w) (A.under (.builtin "type.__call__" ⟨[.ref C], []⟩)) (.call (.builtin "object.__init__") ⟨[.ref (s.heap.objs.size + 1)], []⟩) (PySem.W.InitBack (s.heap.objs.size + 1) R)
      { s with heap := (s.heap.push PySem.W.emptyDict).push (PySem.W.instObj C s.heap.objs.size) }) :
    codeAny (model prog w) A (.call (.ref C) ⟨[], []⟩) R s := by
  obtain ⟨hh, g, d, t, os⟩ := s
  exact PySem.W.make_core (PySem.W.makes_of X hm) (PySem.W.looks_findIn X hi) hb (.inr ⟨rfl, rfl⟩) h
end

/-! ### the attributes as a list of pairs -/
def putF (f : Str) (v : V) : List (Str × V) → List (Str × V)
  | [] => [(f, v)]
  | (g, x) :: r => if g = f then (g, v) :: r else (g, x) :: putF f v r
theorem lookup_putF (f g : Str) (v : V) : ∀ fs : List (Str × V), (putF f v fs).lookup g = if g = f then some v else fs.lookup g
  | [] => by
    show List.lookup g [(f, v)] = _
    by_cases h : g = f
    · have hb : (g == f) = true := beq_iff_eq.mpr h
      simp only [List.lookup, hb, if_pos h]
    · have hb : (g == f) = false := beq_eq_false_iff_ne.mpr h
      simp only [List.lookup, hb, if_neg h]
  | (k, x) :: r => by
    have ih := lookup_putF f g v r
    rw [show putF f v ((k, x) :: r) = (if k = f then (k, v) :: r else (k, x) :: putF f v r) from rfl]
    by_cases hk : k = f
    · rw [if_pos hk]
      by_cases h : g = k
      · have hb : (g == k) = true := beq_iff_eq.mpr h
        simp only [List.lookup, hb, if_pos (h.trans hk)]
      · have hb : (g == k) = false := beq_eq_false_iff_ne.mpr h
        simp only [List.lookup, hb, if_neg (fun e : g = f => h (e.trans hk.symm))]
    · rw [if_neg hk]
      by_cases h : g = k
      · have hb : (g == k) = true := beq_iff_eq.mpr h
        simp only [List.lookup, hb, if_neg (fun e : g = f => hk (h.symm.trans e))]
      · have hb : (g == k) = false := beq_eq_false_iff_ne.mpr h
        simp only [List.lookup, hb]
        exact ih
theorem keys_putF (f : Str) (v : V) : ∀ fs : List (Str × V), f ∈ (putF f v fs).map (·.1) ∧ ∀ g, g ∈ fs.map (·.1) → g ∈ (putF f v fs).map (·.1)
  | [] => ⟨by simp [putF], fun g h => by simp at h⟩
  | (k, x) :: r => by
    obtain ⟨i1, i2⟩ := keys_putF f v r
    rw [show putF f v ((k, x) :: r) = (if k = f then (k, v) :: r else (k, x) :: putF f v r) from rfl]
    by_cases hk : k = f
    · rw [if_pos hk]
      subst hk
      exact ⟨by simp, fun g h => by simpa using h⟩
    · rw [if_neg hk]
      refine ⟨?_, fun g h => ?_⟩
      · rw [List.map_cons]
        exact List.mem_cons_of_mem _ i1
      · rw [List.map_cons] at h ⊢
        rcases List.mem_cons.mp h with e | e
        · exact List.mem_cons.mpr (.inl e)
        · exact List.mem_cons_of_mem _ (i2 g e)
theorem length_putF (f : Str) (v : V) : ∀ fs : List (Str × V), (putF f v fs).length ≤ fs.length + 1
  | [] => by simp [putF]
  | (k, x) :: r => by
    have ih := length_putF f v r
    rw [show putF f v ((k, x) :: r) = (if k = f then (k, v) :: r else (k, x) :: putF f v r) from rfl]
    by_cases hk : k = f
    · rw [if_pos hk, List.length_cons, List.length_cons]; omega
    · rw [if_neg hk, List.length_cons, List.length_cons]; omega

theorem RelO.some_of {v : V} {o : Option Value} (r : RelO (some v) o) : ∃ u, o = some u ∧ RelV v u := by
  cases o with
  | none => exact (show False from r).elim
  | some u => exact ⟨u, rfl, r⟩
theorem RelO.none_of {o : Option Value} (r : RelO none o) : o = none := by
  cases o with
  | none => rfl
  | some u => exact (show False from r).elim
theorem handed_of {v : V} {u : Value} (r : RelV v u) : PySem.W.handedIn u = true := by
  cases v with
  | non => cases (show u = Value.none from r); rfl
  | bl b => cases (show u = Value.bool b from r); rfl
  | int i => obtain ⟨t, e⟩ := (show ∃ t, u = Value.int i t from r); cases e; rfl
  | str x => obtain ⟨t, e⟩ := (show ∃ t, u = Value.str x t from r); cases e; rfl
  | byt b => obtain ⟨t, e⟩ := (show ∃ t, u = Value.bytes b t from r); cases e; rfl
  | flt b => obtain ⟨t, e⟩ := (show ∃ t, u = Value.float b t from r); cases e; rfl
  | ref a => cases (show u = Value.ref a from r); rfl
  | ty n => cases (show u = Value.type n from r); rfl

section
variable {P : Program} {w : World} {H H' : Hp} {h h' : Heap} {a C dx : Addr} {fs fs' : List (Str × V)}
theorem ins_get (hok : HOk P w H h) (e : H a = some (.ins C dx fs)) : ∃ mA, ObjM h a dx C mA ∧ (∀ f, RelO (fs.lookup f) (mA f)) ∧ PySem.Within mA (fs.map (·.1)) ∧ fs.length ≤ 1000 ∧ H dx = some (.own a) := by
  obtain ⟨d, z, ne, ob, mA, n, r, q⟩ := (show ObjOk P w H h a (.ins C dx fs) from hok a _ e)
  exact ⟨mA, ⟨ob, n, ne⟩, r, q, z, d⟩
end

/-! ### what of the text a class must have -/
structure Cls (K : PySem.W.Frag) (C : Addr) : Prop where
  pg : PySem.W.plainGet K C Str.empty = true
  hd : PySem.W.hasDictIn K C = true
  po : PySem.W.plainOver K C = true
  sa : PySem.W.findIn K (.ref C) "__setattr__" = some (some (.builtin "object.__setattr__"))
theorem Cls.get {K : PySem.W.Frag} {C : Addr} (c : Cls K C) (f : Str) : PySem.W.plainGet K C f = true := c.pg
/-- no class of it has the name -/
def NoAttr (K : PySem.W.Frag) (C : Addr) (f : Str) : Prop := PySem.W.findIn K (.ref C) f = some none
theorem NoAttr.taker {K : PySem.W.Frag} {C : Addr} {f : Str} (n : NoAttr K C f) : PySem.W.takerIn K C f = some none := by
  unfold PySem.W.takerIn
  rw [show PySem.W.findIn K (.ref C) f = some none from n]
  rfl
/-- a constant of the class -/
structure Con (K : PySem.W.Frag) (C : Addr) (f : Str) (v : V) (u : Value) : Prop where
  at_ : PySem.W.findIn K (.ref C) f = some (some u)
  rel : RelV v u
  get : PySem.W.specialIn K u "__get__" = some none
  cp : PySem.W.copiedNames.contains f = false
/-- a method: a plain def of the class or of one above it -/
structure Meth (K : PySem.W.Frag) (C : Addr) (m : Str) (f : Addr) : Prop where
  at_ : PySem.W.findIn K (.ref C) m = some (some (.ref f))
  fn : PySem.W.isFn K (.ref f) = true
  kp : PySem.W.keepIn K (.ref f) = true

section
variable {X : Cx} {pins : List (Addr × Obj)} {σ : St} {H : Hp} {s : Shared} {a C dx : Addr} {fs : List (Str × V)} {f : Str} {v : V} {A : Around} {E : Value → Shared → Prop}

theorem getattr_ok {b : Bool} {Q : Value → Shared → Prop} (I : Inv X pins σ H s) (e : H a = some (.ins C dx fs)) (c : Cls X.K C) (n : NoAttr X.K C f) (l : fs.lookup f = some v)
    (h : ∀ u s', Inv X pins σ H s' → RelV v u → Q u s') : wpAny (model X.prog X.w) A (getAttr (.ref a) f b) Q E s := by
  obtain ⟨mA, O, r, _, _, _⟩ := ins_get I.hok e
  obtain ⟨u, hu, ru⟩ := RelO.some_of (v := v) (o := mA f) (by rw [← l]; exact r f)
  exact get_map I.kIn O (c.get f) c.hd n hu (handed_of ru) (h u _ (I.tok _) ru)

theorem getcon_ok {b : Bool} {u : Value} {Q : Value → Shared → Prop} (I : Inv X pins σ H s) (e : H a = some (.ins C dx fs)) (c : Cls X.K C) (k : Con X.K C f v u) (l : fs.lookup f = none)
    (h : ∀ s', Inv X pins σ H s' → Q u s') : wpAny (model X.prog X.w) A (getAttr (.ref a) f b) Q E s := by
  obtain ⟨mA, O, r, _, _, _⟩ := ins_get I.hok e
  have hn : mA f = none := RelO.none_of (by rw [← l]; exact r f)
  exact get_const I.kIn O (c.get f) c.hd k.at_ k.get k.cp hn (handed_of k.rel) (h _ (I.tok _))

theorem getmeth_ok {m : Str} {g : Addr} {pl : Sem Bool} {Q : Value × List Value → Shared → Prop} (I : Inv X pins σ H s) (e : H a = some (.ins C dx fs)) (c : Cls X.K C) (k : Meth X.K C m g) (l : fs.lookup m = none)
    (h : Q (.ref g, [.ref a]) s) : wpAny (model X.prog X.w) A (getMethod (.ref a) m pl) Q E s := by
  obtain ⟨mA, O, r, _, _, _⟩ := ins_get I.hok e
  have hn : mA m = none := RelO.none_of (by rw [← l]; exact r m)
  exact get_meth I.kIn O (c.get m) k.at_ k.fn hn h

theorem setattr_ok {y : V} {u : Value} {Q : Unit → Shared → Prop} (I : Inv X pins σ H s) (e : H a = some (.ins C dx fs)) (c : Cls X.K C) (n : NoAttr X.K C f) (hl : fs.length < 1000) (ry : RelV y u)
    (h : ∀ s', Inv X pins σ (upd H a (.ins C dx (putF f y fs))) s' → Q () s') : wpAny (model X.prog X.w) A (setAttr (.ref a) f u) Q E s := by
  obtain ⟨mA, O, r, wi, _, ho⟩ := ins_get I.hok e
  have hz : (fs.map (·.1)).length ≤ sizeLine := by rw [List.length_map, sizeLine_eq]; omega
  refine set_map I.kIn O c.sa c.po n.taker c.hd wi hz fun h' O' sb => h _ ?_
  have hd : ∃ o, h'.get? dx = some o := let ⟨o, _, _, e', _⟩ := O'.ns; ⟨o, e'⟩
  refine I.write (x := a) (e := dx) (by rw [e]; exact True.intro) (.inr ho) (fun b q hb z => (sb.2 b hb).trans z) hd ?_
  refine ⟨by rw [upd_ne O.ne]; exact ho, ?_, O.ne, O'.obj, _, O'.ns, fun g => ?_, fun g hg => ?_⟩
  · have := length_putF f y fs; omega
  · show RelO ((putF f y fs).lookup g) (if g = f then some u else mA g)
    rw [lookup_putF]
    by_cases q : g = f
    · rw [if_pos q, if_pos q]; exact ry
    · rw [if_neg q, if_neg q]; exact r g
  · by_cases q : g = f
    · rw [q]; exact (keys_putF f y fs).1
    · refine (keys_putF f y fs).2 g (wi g fun z => hg ?_)
      show (if g = f then some u else mA g) = none
      rw [if_neg q]; exact z

/-- a new instance, tracked, without attributes -/
theorem Inv.made (I : Inv X pins σ H s) : Inv X pins σ (upd (upd H s.heap.objs.size (.own (s.heap.objs.size + 1))) (s.heap.objs.size + 1) (.ins C s.heap.objs.size []))
    { s with heap := (s.heap.push PySem.W.emptyDict).push (PySem.W.instObj C s.heap.objs.size) } := by
  have e1 : (s.heap.push PySem.W.emptyDict).get? s.heap.objs.size = some PySem.W.emptyDict := Heap.get?_push_size s.heap rfl
  have e2 : ((s.heap.push PySem.W.emptyDict).push (PySem.W.instObj C s.heap.objs.size)).get? (s.heap.objs.size + 1) = some (PySem.W.instObj C s.heap.objs.size) := by
    have := Heap.get?_push_size (s.heap.push PySem.W.emptyDict) (o := PySem.W.instObj C s.heap.objs.size) rfl
    rwa [Heap.size_push] at this
  have e3 : (s.heap.push PySem.W.emptyDict).Ns s.heap.objs.size (fun _ => none) := ⟨PySem.W.emptyDict, #[], _, e1, rfl, (fun e he => absurd he (by simp)), fun _ => rfl⟩
  have I1 := I.laid (a := s.heap.objs.size) (o := .own (s.heap.objs.size + 1)) (h' := s.heap.push PySem.W.emptyDict) (t' := s.toks) (fun b u q => Heap.get?_push_of_some _ q) (Nat.le_refl _) ⟨_, e1⟩
  refine I1.laid (a := s.heap.objs.size + 1) (o := .ins C s.heap.objs.size []) (t' := s.toks) (fun b u q => Heap.get?_push_of_some _ q) (Nat.le_of_eq (Heap.size_push _ _)) ?_
  have ne : s.heap.objs.size ≠ s.heap.objs.size + 1 := Nat.ne_of_lt (Nat.lt_succ_self _)
  refine ⟨by rw [upd_ne ne, upd_same], Nat.zero_le _, ne, e2, fun _ => none, (Heap.Ns1.of_empty e3).at fun o q => Heap.get?_push_of_some _ q, fun _ => True.intro, fun y hy => absurd rfl hy⟩

/-- e.f where nothing but the object is asked: through attributeBase (super) and the last hold -/
theorem attr_of {prog : Program} {w : World} {env : Env} {e : Expr} {f : Str} {pos : Pos} {s : Shared} {Q : Value → Shared → Prop} (hb : attributeBase e f env (eval e env) = eval e env)
    (h : wpAny (model prog w) A (eval e env) (fun o s₁ => wpAny (model prog w) A (getAttr o f true) Q E s₁) E s) : wpAny (model prog w) A (eval (.Attribute e f pos) env) Q E s :=
  Attribute_any_ h (by rw [arm_eval_Attribute, hb])
end

/-! ### readings and rules -/
/-- e.f, an attribute of the instance -/
inductive FldR (K : PySem.W.Frag) (f : Str) (Q : VK) (x : V) (H1 : Hp) : Prop
  | mk (a C dx : Addr) (fs : List (Str × V)) (v : V) (e : x = .ref a) (h : H1 a = some (.ins C dx fs)) (c : Cls K C) (n : NoAttr K C f) (l : fs.lookup f = some v) (q : Q v H1) : FldR K f Q x H1
def tFld (K : PySem.W.Frag) (ta : TE) (f : Str) : TE := fun σ H Q => ta σ H (FldR K f Q)
/-- e.f, a constant of the class -/
def tCon (K : PySem.W.Frag) (ta : TE) (f : Str) : TE := fun σ H Q => ta σ H fun x H1 => ∃ a C dx fs v u, x = .ref a ∧ H1 a = some (.ins C dx fs) ∧ Cls K C ∧ Con K C f v u ∧ fs.lookup f = none ∧ Q v H1
/-- e.f = value -/
def sFld (K : PySem.W.Frag) (ta tv : TE) (f : Str) : TS := fun D σ H => tv σ H fun y H1 => ta σ H1 fun x H2 => ∃ a C dx fs, x = .ref a ∧ H2 a = some (.ins C dx fs) ∧ Cls K C ∧ NoAttr K C f ∧ fs.length < 1000 ∧
  D.nx σ (upd H2 a (.ins C dx (putF f y fs)))
/-- an augmented operator on two values -/
def InOp (X : Cx) (op : Operator) (rd : V → V → Hp → VK → Prop) : Prop :=
  ∀ (pins : List (Addr × Obj)) (s : Shared) (σ : St) (H : Hp) (x y : V) (u v : Value) (Q : VK), Inv X pins σ H s → RelV x u → RelV y v → rd x y H Q → wpAny (model X.prog X.w) X.A (inplaceOp op u v) (EP X pins σ Q) X.xe s
/-- e.f op= value -/
def sFldAug (K : PySem.W.Frag) (ta tv : TE) (rd : V → V → Hp → VK → Prop) (f : Str) : TS := fun D σ H => ta σ H fun x H1 => ∃ a C dx fs v, x = .ref a ∧ H1 a = some (.ins C dx fs) ∧ Cls K C ∧ NoAttr K C f ∧ fs.lookup f = some v ∧
  tv σ H1 fun y H2 => rd v y H2 fun z H3 => ∃ dx' fs', H3 a = some (.ins C dx' fs') ∧ fs'.length < 1000 ∧ D.nx σ (upd H3 a (.ins C dx' (putF f z fs')))

section
variable {X : Cx} {o e value : Expr} {f : Str} {pos pos' tpos : Pos} {ta tv : TE}
theorem pe_fld (he : PE X e ta) (hb : attributeBase e f X.env (eval e X.env) = eval e X.env) : PE X (.Attribute e f pos) (tFld X.K ta f) := by
  intro pins s σ H Q I h
  refine attr_of hb (thn (he pins s σ H _ I h) fun u s1 ⟨x, H1, I1, rx, a, C, dx, fs, v, ex, ea, c, n, l, q⟩ => ?_)
  subst ex
  obtain rfl : u = Value.ref a := rx
  exact getattr_ok I1 ea c n l fun u' s2 I2 ru => ⟨v, H1, I2, ru, q⟩
theorem pe_con (he : PE X e ta) (hb : attributeBase e f X.env (eval e X.env) = eval e X.env) : PE X (.Attribute e f pos) (tCon X.K ta f) := by
  intro pins s σ H Q I h
  refine attr_of hb (thn (he pins s σ H _ I h) fun u s1 ⟨x, H1, I1, rx, a, C, dx, fs, v, u0, ex, ea, c, k, l, q⟩ => ?_)
  subst ex
  obtain rfl : u = Value.ref a := rx
  exact getcon_ok I1 ea c k l fun s2 I2 => ⟨v, H1, I2, k.rel, q⟩
theorem ps_fld (ha : PE X o ta) (hv : PE X value tv) (hs : swapsWith value (some (.Attribute o f pos')) pos.line X.env = pure false) : PS X (.Assign [.Attribute o f pos'] value pos) (sFld X.K ta tv f) := by
  intro pins s σ H D I h
  refine plainObj_wpAny_Assign_Attribute (thn (hv pins s σ H _ I h) fun u s1 ⟨y, H1, I1, ry, q⟩ => thn (ha pins s1 σ H1 _ I1 q) fun ov s2 ⟨x, H2, I2, rx, a, C, dx, fs, ex, ea, c, n, l, q2⟩ => ?_) hs
  subst ex
  obtain rfl : ov = Value.ref a := rx
  exact setattr_ok I2 ea c n l ry fun s3 I3 => ⟨σ, _, I3, q2⟩
theorem ps_fldaug {op : Operator} {rd : V → V → Hp → VK → Prop} (ha : PE X o ta) (hv : PE X value tv) (hop : InOp X op rd) : PS X (.AugAssign (.Attribute o f tpos) op value pos) (sFldAug X.K ta tv rd f) := by
  intro pins s σ H D I h
  refine wpAny_AugAssign_AttributeAny (thn (ha pins s σ H _ I h) fun ov s1 ⟨x, H1, I1, rx, a, C, dx, fs, v, ex, ea, c, n, l, q⟩ => ?_)
  subst ex
  obtain rfl : ov = Value.ref a := rx
  refine getattr_ok I1 ea c n l fun u s2 I2 ru => thn (hv pins s2 σ H1 _ I2 q) fun w3 s3 ⟨y, H2, I3, ry, q3⟩ => thn (hop pins s3 σ H2 v y u w3 _ I3 ru ry q3) fun w4 s4 ⟨z, H3, I4, rz, dx', fs', ea', l', q4⟩ => ?_
  exact setattr_ok I4 ea' c n l' rz fun s5 I5 => ⟨σ, _, I5, q4⟩
def rAdd : V → V → Hp → VK → Prop := fun x y H Q => ∃ i j, x = .int i ∧ y = .int j ∧ Q (.int (i + j)) H
def rSub : V → V → Hp → VK → Prop := fun x y H Q => ∃ i j, x = .int i ∧ y = .int j ∧ Q (.int (i - j)) H
theorem in_add : InOp X .Add rAdd := by
  rintro pins s σ H x y u v Q I rx ry ⟨i, j, rfl, rfl, q⟩
  obtain ⟨t, rfl⟩ := (show ∃ t, u = Value.int i t from rx)
  obtain ⟨t', rfl⟩ := (show ∃ t', v = Value.int j t' from ry)
  exact PyProof.Rows.iadd_int ⟨.int (i + j), H, I.tok _, ⟨_, rfl⟩, q⟩
theorem in_sub : InOp X .Sub rSub := by
  rintro pins s σ H x y u v Q I rx ry ⟨i, j, rfl, rfl, q⟩
  obtain ⟨t, rfl⟩ := (show ∃ t, u = Value.int i t from rx)
  obtain ⟨t', rfl⟩ := (show ∃ t', v = Value.int j t' from ry)
  exact PyProof.Rows.isub_int ⟨.int (i - j), H, I.tok _, ⟨_, rfl⟩, q⟩

/-- what is between an instance and its method: the tree of a method call -/
theorem methcall_of {pl : Sem Bool} {m : Str} {apos : Pos} {args : List Expr} {pins : List (Addr × Obj)} {s : Shared} {σ : St} {H : Hp} {Q : Value → Shared → Prop} {te : TE} (he : PE X e te) (I : Inv X pins σ H s)
    (h : te σ H fun x H1 => ∃ a C dx fs g, x = .ref a ∧ H1 a = some (.ins C dx fs) ∧ Cls X.K C ∧ Meth X.K C m g ∧ fs.lookup m = none ∧
      ∀ s1, Inv X pins σ H1 s1 → wpAny (model X.prog X.w) X.A (callWith pos (.ref g) [.ref a] (backTo pos (starEach args X.env)) (backToKw pos (keywordEach [] X.env))) Q X.xe s1)
    (ht : eval (.Call (.Attribute e m apos) args [] pos) X.env = (do
      let ov ← eval e X.env
      standAt apos.atName
      let (f, first) ← holding [ov] (getMethod ov m pl)
      callWith pos f first (backTo pos (starEach args X.env)) (backToKw pos (keywordEach [] X.env)))) :
    wpAny (model X.prog X.w) X.A (eval (.Call (.Attribute e m apos) args [] pos) X.env) Q X.xe s := by
  refine PySem.W.methodCall_KW (pl := pl) (thn (he pins s σ H _ I h) fun u s1 ⟨x, H1, I1, rx, a, C, dx, fs, g, ex, ea, c, k, l, q⟩ => ?_) ht
  subst ex
  obtain rfl : u = Value.ref a := rx
  exact getmeth_ok I1 ea c k l (q s1 I1)
end

/-! ### isinstance -/
section
variable {X : Cx} {pins : List (Addr × Obj)} {σ : St} {H : Hp} {s : Shared} {A : Around} {E : Value → Shared → Prop} {Q : Value → Shared → Prop} {c : Value} {b : Bool}
/-- the type of a value, as the fragment's deciders take it; for an instance its class -/
inductive TyOf (K : PySem.W.Frag) (H : Hp) : V → Value → Prop where
  | non : TyOf K H .non (.type "NoneType")
  | bl (x : Bool) : TyOf K H (.bl x) (.type "bool")
  | int (i : Int) : TyOf K H (.int i) (.type "int")
  | str (x : Str) : TyOf K H (.str x) (.type "str")
  | flt (x : UInt64) : TyOf K H (.flt x) (.type "float")
  | lst {a : Addr} {xs : List V} (e : H a = some (.lst xs)) : TyOf K H (.ref a) (.type "list")
  | frz {a : Addr} {o : Obj} {xs : List V} (e : H a = some (.frz o (.lst xs))) : TyOf K H (.ref a) (.type "list")
  | tup {a : Addr} {xs : List V} (e : H a = some (.tup xs)) : TyOf K H (.ref a) (.type "tuple")
  | dK {a : Addr} {kvs : List (Key × V)} (e : H a = some (.dK kvs)) : TyOf K H (.ref a) (.type "dict")
  | dT {a : Addr} {kvs : List (List Key × V)} (e : H a = some (.dT kvs)) : TyOf K H (.ref a) (.type "dict")
  | ins {a C dx : Addr} {fs : List (Str × V)} (e : H a = some (.ins C dx fs)) (cl : Cls K C) (ha : PySem.W.findIn K (.ref C) "__class__" = some (some (.builtin "object.__class__")))
      (hn : PySem.W.specialIn K (.builtin "object.__class__") "__get__" = some (some (.builtin "getset_descriptor.__get__"))) (htk : PySem.W.takesIn K (.builtin "object.__class__") = some true)
      (hm : PySem.W.mroIn K C (.type "object") = some true) : TyOf K H (.ref a) (.ref C)
/-- isinstance(x, c) for one class c, a built-in or an own one: kitOne's answer -/
theorem isinst_ok {x : V} {u t : Value} (I : Inv X pins σ H s) (rx : RelV x u) (ty : TyOf X.K H x t) (e : PySem.W.kitOne X.K t c = some b) (h : ∀ tk, Q (.bool b) { s with toks := tk }) :
    wpAny (model X.prog X.w) A (call (.builtin "isinstance") [u, c]) Q E s := by
  cases ty with
  | non => cases (show u = Value.none from rx); exact PySem.W.kia_one PySem.W.kitx_none I.kIn True.intro e (fun z => nomatch z) h
  | bl y => cases (show u = Value.bool y from rx); exact PySem.W.kia_one PySem.W.kitx_bool I.kIn True.intro e (fun z => nomatch z) h
  | int i => obtain ⟨t, q⟩ := (show ∃ t, u = Value.int i t from rx); cases q; exact PySem.W.kia_one PySem.W.kitx_int I.kIn True.intro e (fun z => nomatch z) h
  | str y => obtain ⟨t, q⟩ := (show ∃ t, u = Value.str y t from rx); cases q; exact PySem.W.kia_one PySem.W.kitx_str I.kIn True.intro e (fun z => nomatch z) h
  | flt y => obtain ⟨t, q⟩ := (show ∃ t, u = Value.float y t from rx); cases q; exact PySem.W.kia_one PySem.W.kitx_float I.kIn True.intro e (fun z => nomatch z) h
  | @lst a xs ea =>
    cases (show u = Value.ref a from rx)
    obtain ⟨_, _, n, _, h1⟩ := (show ObjOk X.prog X.w H s.heap a (.lst xs) from I.hok a _ ea)
    exact PySem.W.kia_one PySem.W.kitx_list I.kIn ⟨_, h1, rfl⟩ e (fun z => nomatch z) h
  | @frz a ob xs ea =>
    cases (show u = Value.ref a from rx)
    obtain ⟨_, _, _, n, _, h1⟩ := (show ObjOk X.prog X.w H s.heap a (.frz ob (.lst xs)) from I.hok a _ ea)
    exact PySem.W.kia_one PySem.W.kitx_list I.kIn ⟨_, h1, rfl⟩ e (fun z => nomatch z) h
  | @tup a xs ea =>
    cases (show u = Value.ref a from rx)
    obtain ⟨_, _, _, p⟩ := (show ObjOk X.prog X.w H s.heap a (.tup xs) from I.hok a _ ea)
    obtain ⟨o, h1, h2, _⟩ := p
    exact PySem.W.kia_one PySem.W.kitx_tuple I.kIn ⟨o, h1, h2⟩ e (fun z => nomatch z) h
  | @dK a kvs ea =>
    cases (show u = Value.ref a from rx)
    obtain ⟨_, _, vs, _, p⟩ := (show ObjOk X.prog X.w H s.heap a (.dK kvs) from I.hok a _ ea)
    obtain ⟨o, es, ep, h1, h2, _⟩ := p
    exact PySem.W.kia_one PySem.W.kitx_dict I.kIn ⟨o, h1, h2.1⟩ e (fun z => nomatch z) h
  | @dT a kvs ea =>
    cases (show u = Value.ref a from rx)
    obtain ⟨_, _, xs, _, o, es, ep, h1, h2, _⟩ := (show ObjOk X.prog X.w H s.heap a (.dT kvs) from I.hok a _ ea)
    exact PySem.W.kia_one PySem.W.kitx_dict I.kIn ⟨o, h1, h2.1⟩ e (fun z => nomatch z) h
  | @ins a C dx fs ea cl ha hn htk hm =>
    cases (show u = Value.ref a from rx)
    obtain ⟨mA, O, _⟩ := ins_get I.hok ea
    obtain ⟨od, J, _⟩ := O.look
    exact PySem.W.kia_one (PySem.W.kitx_own (cl.get _) cl.hd ha hn htk hm) I.kIn J e (fun z => nomatch z) h
end
end L2

namespace L2
open PySem PySem.Spec PyProof.Rows

/-! ### room -/
structure Room (k : Nat) (A : Around) : Prop where
  hd : A.handled = none
  dp : A.depth + 3 * k + 5 < recursionLimit
  un : A.units + 16 * k + 200 < cLine
  gu : A.guards = some []
theorem Room.mono {j k : Nat} {A : Around} (r : Room k A) (h : j ≤ k) : Room j A := ⟨r.hd, by have := r.dp; omega, by have := r.un; omega, r.gu⟩
theorem Room.deeper {k : Nat} {A : Around} (r : Room (k + 1) A) (env : Env) : Room k (A.deeper env) :=
  ⟨r.hd, by have := r.dp; show A.depth + 1 + 3 * k + 5 < _; omega, by have := r.un; show A.units + 3 + 16 * k + 200 < _; omega, r.gu⟩
theorem Room.in1 {k : Nat} {A : Around} (r : Room (k + 1) A) : Room k A.in1 :=
  ⟨r.hd, by have := r.dp; show A.depth + 3 * k + 5 < _; omega, by have := r.un; show A.units + 1 + 16 * k + 200 < _; omega, r.gu⟩
theorem make_depth {A : Around} {C : Addr} {us : List Value} {kw : List (Str × Value)} : (A.under (.builtin "type.__call__" ⟨.ref C :: us, kw⟩)).depth = A.depth + 1 := by
  first | rfl | simp [Around.under, Code.weight, Code.isCreation, Code.isGuard, Code.isCaller, Code.frames, Code.isFrame, guardIds]
theorem make_units {A : Around} {C : Addr} {us : List Value} {kw : List (Str × Value)} : (A.under (.builtin "type.__call__" ⟨.ref C :: us, kw⟩)).units = A.units + 1 := by
  first | rfl | simp [Around.under, Code.cUnits, Code.frames, Code.isFrame]
theorem Room.make {k : Nat} {A : Around} (r : Room (k + 1) A) (C : Addr) (us : List Value) (kw : List (Str × Value)) : Room k (A.under (.builtin "type.__call__" ⟨.ref C :: us, kw⟩)) :=
  ⟨r.hd, by have := r.dp; rw [make_depth]; omega, by have := r.un; rw [make_units]; omega, by have := r.gu; first | exact this | simpa [Around.under, Code.guards, Code.isGuard, guardIds, pushGuards] using this⟩
theorem Room.depth {k : Nat} {A : Around} (r : Room k A) : A.depth < recursionLimit := by have := r.dp; omega
theorem Room.units {k : Nat} {A : Around} (r : Room k A) : A.units + 64 < cLine := by have := r.un; omega
theorem Room.units0 {k : Nat} {A : Around} (r : Room k A) : A.units < cLine := by have := r.un; omega

/-! ### argument lists and displays -/
def tNil : TA := fun _ H Q => Q [] H
def tCons (ta : TE) (tr : TA) : TA := fun σ H Q => ta σ H fun x H1 => tr σ H1 fun xs H2 => Q (x :: xs) H2
section
variable {X : Cx} {e : Expr} {es : List Expr} {te : TE} {t : TA} {pos : Pos}
theorem pa_nil : PA X [] tNil := fun _ _ _ _ H Q I h => Calls.spliced_nil ⟨[], H, I, .nil, h⟩
theorem pa_cons (ha : PE X e te) (hr : PA X es t) (hs : starEach (e :: es) X.env = (false, eval e X.env) :: starEach es X.env := by rfl) : PA X (e :: es) (tCons te t) := by
  intro pos pins s σ H Q I h
  rw [hs]
  show wpAny _ _ (spliced ((false, eval e X.env) :: backTo pos (starEach es X.env))) _ _ s
  refine Calls.spliced_cons (thn (ha pins s σ H _ I h) fun u s1 ⟨x, H1, I1, r1, q1⟩ => ?_)
  exact thn (hr pos pins s1 σ H1 _ I1 q1) fun us s2 ⟨xs, H2, I2, r2, q2⟩ => ⟨x :: xs, H2, I2, .cons r1 r2, q2⟩

/-- a tuple, a list of written items -/
def tTup (t : TA) : TE := fun σ H Q => t σ H fun xs H1 => xs.length ≤ sizeLine ∧ ∀ p, H1 p = none → Q (.ref p) (upd H1 p (.tup xs))
def tLst (t : TA) : TE := fun σ H Q => t σ H fun xs H1 => xs.length ≤ sizeLine ∧ ∀ p, H1 p = none → Q (.ref p) (upd H1 p (.lst xs))
theorem pe_tup {x1} (h : PA X es t) : PE X (.Tuple es x1 pos) (tTup t) := by
  intro pins s σ H Q I hq
  refine wpAny_Tuple_spliced (thn (h pos pins s σ H _ I hq) fun us s1 ⟨xs, H1, I1, r, z, q⟩ => ⟨by rw [← r.length]; exact z, ?_⟩)
  have hf : H1 s1.heap.objs.size = none := I1.hok.fresh (Nat.le_refl _)
  refine ⟨.ref s1.heap.objs.size, upd H1 s1.heap.objs.size (.tup xs), I1.laid (t' := s1.toks) (fun b u e => Heap.get?_push_of_some _ e) (Nat.le_refl _) ?_, rfl, q _ hf⟩
  exact ⟨z, us, r, ⟨_, Heap.get?_push_size _ rfl, rfl, _, rfl⟩⟩
theorem pe_lst (h : PA X es t) : PE X (.List es pos) (tLst t) := by
  intro pins s σ H Q I hq
  refine wpAny_List_spliced (thn (h pos pins s σ H _ I hq) fun us s1 ⟨xs, H1, I1, r, z, q⟩ => ⟨by rw [← r.length]; exact z, ?_⟩)
  have hf : H1 s1.heap.objs.size = none := I1.hok.fresh (Nat.le_refl _)
  refine ⟨.ref s1.heap.objs.size, upd H1 s1.heap.objs.size (.lst xs), I1.laid (t' := s1.toks) (fun b u e => Heap.get?_push_of_some _ e) (Nat.le_refl _) ?_, rfl, q _ hf⟩
  exact ⟨z, us, 0, r, Heap.get?_push_size _ rfl⟩
end

/-! ### what a def promises -/
/-- a def's promise: the bound arguments in the parameters' order, the heap, the wanted end, the wanted exception -/
abbrev Sp := List V → Hp → VK → XK → Prop
/-- how an exception lies behind a call (file 08 gives it): the callers' frames, abstract heap and state ahead of the call, the wish, the exception, the state -/
abbrev CXT := List Env → Hp → Shared → XK → Value → Shared → Prop

/-- the state at a call -/
structure Env0 (P : Program) (w : World) (K : PySem.W.Frag) (mg : Str → Option Value) (base : Heap) (A : Around) (outer : List Env) (s : Shared) (H : Hp) : Prop where
  frames : A.frames = some outer
  mod : Mod K mg base
  bs : ∀ b o, base.get? b = some o → s.heap.get? b = some o ∧ H b = none
  bsz : base.objs.size ≤ s.heap.objs.size
  funs : s.heap.FunFrames base outer
  frf : ∀ b ∈ frs outer, H b = none
  hok : HOk P w H s.heap
  bare : AllBare s.gens
/-- a call's end -/
def CE (outer : List Env) (P : Program) (w : World) (H : Hp) (s : Shared) (Q : VK) (u : Value) (s' : Shared) : Prop :=
  ∃ v H', s'.os = s.os ∧ AllBare s'.gens ∧ Un (frs outer) [] H H' s.heap s'.heap ∧ HOk P w H' s'.heap ∧ RelV v u ∧ Q v H'
def CR (CX : CXT) (outer : List Env) (P : Program) (w : World) (H : Hp) (s : Shared) (Q : VK) (E : XK) (r : Result) (s' : Shared) : Prop :=
  match r with
  | .ok (.ret u) => CE outer P w H s Q u s'
  | .ok _ => False
  | .error e => CX outer H s E e s'
structure FnOk (P : Program) (w : World) (K : PySem.W.Frag) (mg : Str → Option Value) (base : Heap) (CX : CXT) (k : Nat) (f : Addr) (fd : FuncData) (ps : List Str) (sp : Sp) : Prop where
  len : ∀ vs H Q E, sp vs H Q E → vs.length = ps.length
  run : ∀ (A : Around) (outer : List Env) (s : Shared) (H : Hp) (args : Args) (us : List Value) (vs : List V) (Q : VK) (E : XK), Room k A → Env0 P w K mg base A outer s H → BindsTo s fd args (ps.zip us) → Vals vs us → sp vs H Q E →
    codeAny (model P w) A (.call (.ref f) args) (CR CX outer P w H s Q E) s
theorem FnOk.mono {P : Program} {w : World} {K : PySem.W.Frag} {mg : Str → Option Value} {base : Heap} {CX : CXT} {j k : Nat} {f : Addr} {fd : FuncData} {ps : List Str} {sp : Sp} (F : FnOk P w K mg base CX j f fd ps sp) (h : j ≤ k) :
    FnOk P w K mg base CX k f fd ps sp := ⟨F.len, fun A outer s H args us vs Q E hr => F.run A outer s H args us vs Q E (hr.mono h)⟩
/-- a weaker promise -/
theorem FnOk.imp {P : Program} {w : World} {K : PySem.W.Frag} {mg : Str → Option Value} {base : Heap} {CX : CXT} {k : Nat} {f : Addr} {fd : FuncData} {ps : List Str} {sp sp' : Sp} (F : FnOk P w K mg base CX k f fd ps sp)
    (h : ∀ vs H Q E, sp' vs H Q E → sp vs H Q E) : FnOk P w K mg base CX k f fd ps sp' :=
  ⟨fun vs H Q E q => F.len vs H Q E (h _ _ _ _ q), fun A outer s H args us vs Q E hr he hb hv hs => F.run A outer s H args us vs Q E hr he hb hv (h _ _ _ _ hs)⟩

theorem Env0.make {P : Program} {w : World} {K : PySem.W.Frag} {mg : Str → Option Value} {base : Heap} {A : Around} {outer : List Env} {s : Shared} {H : Hp} (e : Env0 P w K mg base A outer s H) (C : Addr) (us : List Value) (kw : List (Str × Value)) :
    Env0 P w K mg base (A.under (.builtin "type.__call__" ⟨.ref C :: us, kw⟩)) outer s H := ⟨by first | exact e.frames | (simpa [Around.under, Code.envs, Code.isFrame, pushEnvs] using e.frames), e.mod, e.bs, e.bsz, e.funs, e.frf, e.hok, e.bare⟩
theorem Env0.in1 {P : Program} {w : World} {K : PySem.W.Frag} {mg : Str → Option Value} {base : Heap} {A : Around} {outer : List Env} {s : Shared} {H : Hp} (e : Env0 P w K mg base A outer s H) :
    Env0 P w K mg base A.in1 outer s H := ⟨e.frames, e.mod, e.bs, e.bsz, e.funs, e.frf, e.hok, e.bare⟩

section
variable {X : Cx} {pins : List (Addr × Obj)} {σ : St} {H : Hp} {s s' : Shared}
/-- from a body: what a callee wants -/
theorem Inv.env0 (I : Inv X pins σ H s) : Env0 X.prog X.w X.K X.mg X.base X.A X.stack s H :=
  ⟨I.ok.frames, I.ok.mod, I.bs, Nat.le_trans I.ok.bsz I.sz, I.stack, I.stkFree, I.hok, I.bare⟩
/-- behind a call -/
theorem Inv.after {Q : VK} {u : Value} (I : Inv X pins σ H s) (h : CE X.stack X.prog X.w H s Q u s') : EP X pins σ Q u s' := by
  obtain ⟨v, H', os, bare, un, hok, r, q⟩ := h
  obtain ⟨hh, g, d, t, os'⟩ := s'
  obtain rfl : os' = s.os := os
  exact ⟨v, H', I.call (h' := hh) (g' := g) (d' := d) (t' := t) (ch := []) un hok bare (fun b z => absurd z (by simp)), r, q⟩
end

/-! ### calls -/
/-- f(..): the written arguments, then the defaults dvs; E: what is wanted of an exception -/
def tCall (sp : Sp) (dvs : List V) (E : XK) (t : TA) : TE := fun σ H Q => t σ H fun vs H1 => sp (vs ++ dvs) H1 Q E
/-- o.m(..) of an instance of the class at C -/
def tMeth (C : Addr) (m : Str) (sp : Sp) (dvs : List V) (E : XK) (ta : TE) (t : TA) : TE := fun σ H Q => ta σ H fun x H1 => ∃ a dx fs, x = .ref a ∧ H1 a = some (.ins C dx fs) ∧ fs.lookup m = none ∧
  t σ H1 fun vs H2 => sp (x :: (vs ++ dvs)) H2 Q E
/-- C(..): a new instance and its dict, then __init__ -/
def tMake (C : Addr) (sp : Sp) (dvs : List V) (E : XK) (t : TA) : TE := fun σ H Q => t σ H fun vs H1 => ∀ x dx, H1 x = none → H1 dx = none → dx ≠ x →
  sp (.ref x :: (vs ++ dvs)) (upd (upd H1 dx (.own x)) x (.ins C dx [])) (fun v H2 => v = .non ∧ Q (.ref x) H2) E

/-- how the parameters are bound: us the positional arguments, kw the keywords' values by name, ds the defaults that fill up -/
def Binds (K : PySem.W.Frag) (fd : FuncData) (ps : List Str) (ds : List Value) : Prop :=
  ∀ (s : Shared) (us : List Value), K.In s.heap → (us ++ ds).length = ps.length → BindsTo s fd ⟨us, []⟩ (ps.zip (us ++ ds))
/-- every parameter is given -/
theorem Binds.all {K : PySem.W.Frag} {fd : FuncData} {ps : List Str} (h : ∀ us : List Value, us.length = ps.length → bindArgs fd ⟨us, []⟩ = pure (ps.zip us)) : Binds K fd ps [] := fun s us _ hl => by
  rw [List.append_nil] at hl ⊢
  exact .of_eq (h us hl)

/-- an exception of a callee reaches what this body wants of exceptions -/
def Passes (CX : CXT) (X : Cx) (E : XK) : Prop := ∀ (pins : List (Addr × Obj)) (σ : St) (H : Hp) (s : Shared) (e : Value) (s' : Shared), Inv X pins σ H s → CX X.stack H s E e s' → X.xe e s'

section
variable {X : Cx} {CX : CXT} {k : Nat} {f C : Addr} {fd : FuncData} {ps : List Str} {sp : Sp} {dvs : List V} {ds : List Value} {E : XK} {x m : Str} {p pos apos : Pos} {e o : Expr} {es : List Expr} {ta : TE} {t : TA}

/-- the callee runs -/
theorem run_fn {pins : List (Addr × Obj)} {σ : St} {H : Hp} {s : Shared} {Q : VK} {us : List Value} {vs : List V} (F : FnOk X.prog X.w X.K X.mg X.base CX k f fd ps sp) (hr : Room k X.A) (hb : Binds X.K fd ps ds) (hd : Vals dvs ds) (hx : Passes CX X E)
    (I : Inv X pins σ H s) (r : Vals vs us) (h : sp (vs ++ dvs) H Q E) : wpAny (model X.prog X.w) X.A (call (.ref f) us) (EP X pins σ Q) X.xe s := by
  have r2 : Vals (vs ++ dvs) (us ++ ds) := r.append hd
  have hl : (us ++ ds).length = ps.length := by rw [← r2.length]; exact F.len _ _ _ _ h
  refine wpAny_call (codeAny_mono (F.run X.A X.stack s H ⟨us, []⟩ (us ++ ds) (vs ++ dvs) Q E hr I.env0 (hb s us I.kIn hl) r2 h) fun r s' hq => ?_)
  cases r with
  | error e => exact hx pins σ H s e s' I hq
  | ok fl =>
    cases fl with
    | ret u => exact I.after hq
    | next => exact False.elim hq
    | brk => exact False.elim hq
    | cont => exact False.elim hq

theorem pe_call (F : FnOk X.prog X.w X.K X.mg X.base CX k f fd ps sp) (hr : Room k X.A) (hg : Gl X x) (hm : X.mg x = some (.ref f)) (hk : PySem.W.keepIn X.K (.ref f) = true) (hb : Binds X.K fd ps ds) (hd : Vals dvs ds) (hx : Passes CX X E)
    (ha : PA X (e :: es) t) (hdb : (x == ("__debug__" : Str)) = false := by decide) (he : starEach (e :: es) X.env = (false, eval e X.env) :: starEach es X.env := by rfl) (hpl : (backTo pos (starEach es X.env)).any (·.1) = false := by rfl) :
    PE X (.Call (.Name x p) (e :: es) [] pos) (tCall sp dvs E t) := by
  intro pins s σ H Q I h
  refine wpAny_Call_Name_kw (ld_glob I hg hm ?_ hdb)
  refine PySem.W.callWith_K (h₀ := X.base) I.ok.mod.kin hk (thn (ha pos pins s σ H _ I h) fun us s1 ⟨vs, H1, I1, r, q⟩ => ⟨I1.kIn, ?_⟩) he hpl
  exact run_fn F hr hb hd hx I1 r q
theorem pe_call0 (F : FnOk X.prog X.w X.K X.mg X.base CX k f fd ps sp) (hr : Room k X.A) (hg : Gl X x) (hm : X.mg x = some (.ref f)) (hk : PySem.W.keepIn X.K (.ref f) = true) (hb : Binds X.K fd ps ds) (hd : Vals dvs ds) (hx : Passes CX X E)
    (hdb : (x == ("__debug__" : Str)) = false := by decide) : PE X (.Call (.Name x p) [] [] pos) (tCall sp dvs E tNil) := by
  intro pins s σ H Q I h
  refine wpAny_Call_Name_kw (ld_glob I hg hm ?_ hdb)
  exact PySem.W.callWith_K0 I.kIn hk (run_fn (us := []) F hr hb hd hx I .nil h)

/-- o.m(e, ..) -/
theorem pe_meth {pl : Sem Bool} (he : PE X o ta) (c : Cls X.K C) (hm : Meth X.K C m f) (F : FnOk X.prog X.w X.K X.mg X.base CX k f fd ps sp) (hr : Room k X.A) (hb : Binds X.K fd ps ds) (hd : Vals dvs ds) (hx : Passes CX X E) (ha : PA X (e :: es) t)
    (hst : starEach (e :: es) X.env = (false, eval e X.env) :: starEach es X.env := by rfl) (hpl : (backTo pos (starEach es X.env)).any (·.1) = false := by rfl)
    (ht : eval (.Call (.Attribute o m apos) (e :: es) [] pos) X.env = (do
      let ov ← eval o X.env
      standAt apos.atName
      let (f, first) ← holding [ov] (getMethod ov m pl)
      callWith pos f first (backTo pos (starEach (e :: es) X.env)) (backToKw pos (keywordEach [] X.env))) := by rfl) :
    PE X (.Call (.Attribute o m apos) (e :: es) [] pos) (tMeth C m sp dvs E ta t) := by
  intro pins s σ H Q I h
  refine PySem.W.methodCall_KW (pl := pl) (thn (he pins s σ H _ I h) fun u s1 ⟨x, H1, I1, rx, a, dx, fs, ex, ea, l, q⟩ => ?_) ht
  subst ex
  obtain rfl : u = Value.ref a := rx
  refine getmeth_ok I1 ea c hm l ?_
  refine PySem.W.callWith_K (first := [.ref a]) (h₀ := X.base) I.ok.mod.kin hm.kp (thn (ha pos pins s1 σ H1 _ I1 q) fun us s2 ⟨vs, H2, I2, r, q2⟩ => ⟨I2.kIn, ?_⟩) hst hpl
  exact run_fn (us := .ref a :: us) (vs := .ref a :: vs) F hr hb hd hx I2 (.cons rfl r) q2
/-- o.m() -/
theorem pe_meth0 {pl : Sem Bool} (he : PE X o ta) (c : Cls X.K C) (hm : Meth X.K C m f) (F : FnOk X.prog X.w X.K X.mg X.base CX k f fd ps sp) (hr : Room k X.A) (hb : Binds X.K fd ps ds) (hd : Vals dvs ds) (hx : Passes CX X E)
    (ht : eval (.Call (.Attribute o m apos) [] [] pos) X.env = (do
      let ov ← eval o X.env
      standAt apos.atName
      let (f, first) ← holding [ov] (getMethod ov m pl)
      callWith pos f first (backTo pos (starEach [] X.env)) (backToKw pos (keywordEach [] X.env))) := by rfl) :
    PE X (.Call (.Attribute o m apos) [] [] pos) (tMeth C m sp dvs E ta tNil) := by
  intro pins s σ H Q I h
  refine PySem.W.methodCall_KW (pl := pl) (thn (he pins s σ H _ I h) fun u s1 ⟨x, H1, I1, rx, a, dx, fs, ex, ea, l, q⟩ => ?_) ht
  subst ex
  obtain rfl : u = Value.ref a := rx
  refine getmeth_ok I1 ea c hm l ?_
  exact PySem.W.callWith_K0 (first := [.ref a]) I1.kIn hm.kp (run_fn (us := [.ref a]) (vs := [.ref a]) F hr hb hd hx I1 (.cons rfl .nil) q)

/-- what a class must have to be made -/
structure Mk (K : PySem.W.Frag) (C f : Addr) : Prop where
  makes : PySem.W.makesIn K C = true
  init : PySem.W.findIn K (.ref C) "__init__" = some (some (.ref f))
  fn : PySem.W.isFn K (.ref f) = true
  kp : PySem.W.keepIn K (.ref C) = true

theorem run_make {pins : List (Addr × Obj)} {σ : St} {H : Hp} {s : Shared} {Q : VK} {us : List Value} {vs : List V} (M : Mk X.K C f) (F : FnOk X.prog X.w X.K X.mg X.base CX k f fd ps sp) (hr : Room (k + 1) X.A) (hb : Binds X.K fd ps ds) (hd : Vals dvs ds)
    (hx : Passes CX X E) (I : Inv X pins σ H s) (r : Vals vs us)
    (h : ∀ x dx, H x = none → H dx = none → dx ≠ x → sp (.ref x :: (vs ++ dvs)) (upd (upd H dx (.own x)) x (.ins C dx [])) (fun v H2 => v = .non ∧ Q (.ref x) H2) E) :
    wpAny (model X.prog X.w) X.A (call (.ref C) us) (EP X pins σ Q) X.xe s := by
  have hq := h (s.heap.objs.size + 1) s.heap.objs.size (I.hok.fresh (Nat.le_succ _)) (I.hok.fresh (Nat.le_refl _)) (Nat.ne_of_lt (Nat.lt_succ_self _))
  have I2 := Inv.made (C := C) I
  have r2 : Vals (V.ref (s.heap.objs.size + 1) :: (vs ++ dvs)) (Value.ref (s.heap.objs.size + 1) :: (us ++ ds)) := .cons rfl (r.append hd)
  have hl : (Value.ref (s.heap.objs.size + 1) :: us ++ ds).length = ps.length := by
    have e := r2.length
    rw [F.len _ _ _ _ hq] at e
    exact e.symm
  refine wpAny_call (make_map (f := f) I.kIn M.makes M.init (beq_iff_eq.mp M.fn) (codeAny_mono (F.run _ X.stack _ _ ⟨Value.ref (s.heap.objs.size + 1) :: us, []⟩ (Value.ref (s.heap.objs.size + 1) :: (us ++ ds)) _ _ E (hr.make C us [])
    (I2.env0.make C us []) (hb _ (Value.ref (s.heap.objs.size + 1) :: us) I2.kIn hl) r2 hq) fun r s' hq' => ?_))
  cases r with
  | error e => exact hx pins σ _ _ e s' I2 hq'
  | ok fl =>
    cases fl with
    | ret u =>
      obtain ⟨v, H', I3, rv, ev, q3⟩ := I2.after hq'
      subst ev
      exact ⟨rv, ⟨V.ref (s.heap.objs.size + 1), H', I3, rfl, q3⟩⟩
    | next => exact False.elim hq'
    | brk => exact False.elim hq'
    | cont => exact False.elim hq'
theorem pe_make (M : Mk X.K C f) (F : FnOk X.prog X.w X.K X.mg X.base CX k f fd ps sp) (hr : Room (k + 1) X.A) (hg : Gl X x) (hm : X.mg x = some (.ref C)) (hb : Binds X.K fd ps ds) (hd : Vals dvs ds) (hx : Passes CX X E)
    (ha : PA X (e :: es) t) (hdb : (x == ("__debug__" : Str)) = false := by decide) (he : starEach (e :: es) X.env = (false, eval e X.env) :: starEach es X.env := by rfl) (hpl : (backTo pos (starEach es X.env)).any (·.1) = false := by rfl) :
    PE X (.Call (.Name x p) (e :: es) [] pos) (tMake C sp dvs E t) := by
  intro pins s σ H Q I h
  refine wpAny_Call_Name_kw (ld_glob I hg hm ?_ hdb)
  refine PySem.W.callWith_K (h₀ := X.base) I.ok.mod.kin M.kp (thn (ha pos pins s σ H _ I h) fun us s1 ⟨vs, H1, I1, r, q⟩ => ⟨I1.kIn, ?_⟩) he hpl
  exact run_make M F hr hb hd hx I1 r q
theorem pe_make0 (M : Mk X.K C f) (F : FnOk X.prog X.w X.K X.mg X.base CX k f fd ps sp) (hr : Room (k + 1) X.A) (hg : Gl X x) (hm : X.mg x = some (.ref C)) (hb : Binds X.K fd ps ds) (hd : Vals dvs ds) (hx : Passes CX X E)
    (hdb : (x == ("__debug__" : Str)) = false := by decide) : PE X (.Call (.Name x p) [] [] pos) (tMake C sp dvs E tNil) := by
  intro pins s σ H Q I h
  refine wpAny_Call_Name_kw (ld_glob I hg hm ?_ hdb)
  exact PySem.W.callWith_K0 I.kIn M.kp (run_make (us := []) M F hr hb hd hx I .nil h)
end

/-! ### keywords -/
/-- the values of the keywords, from the left -/
def PK (X : Cx) (kws : List Keyword) (t : TA) : Prop :=
  ∀ (pos : Pos) (pins : List (Addr × Obj)) (s : Shared) (σ : St) (H : Hp) (Q : List V → Hp → Prop), Inv X pins σ H s → t σ H Q → wpAny (model X.prog X.w) X.A (evalAll ((backToKw pos (keywordEach kws X.env)).map (·.2))) (AP X pins σ Q) X.xe s
section
variable {X : Cx} {CX : CXT} {k : Nat} {f C : Addr} {fd : FuncData} {ps ks : List Str} {sp : Sp} {E : XK} {x m : Str} {p pos apos kpos : Pos} {e o : Expr} {es : List Expr} {kws : List Keyword} {te ta : TE} {t tk : TA} {nm : Option Str}
theorem pk_nil : PK X [] tNil := fun _ _ _ _ H Q I h => wpAny_evalAll_nil ⟨[], H, I, .nil, h⟩
theorem pk_cons (ha : PE X e te) (hr : PK X kws t) : PK X (⟨nm, e, kpos⟩ :: kws) (tCons te t) := by
  intro pos pins s σ H Q I h
  show wpAny _ _ (evalAll ((do let v ← eval e X.env; standAt pos; pure v) :: (backToKw pos (keywordEach kws X.env)).map (·.2))) _ _ s
  refine wpAny_evalAll_cons (wpAny_bind (thn (ha pins s σ H _ I h) fun u s1 ⟨x, H1, I1, r1, q1⟩ => wpAny_bind (wpAny_standAt (wpAny_pure ?_))))
  exact thn (hr pos pins s1 σ H1 _ I1 q1) fun us s2 ⟨xs, H2, I2, r2, q2⟩ => ⟨x :: xs, H2, I2, .cons r1 r2, q2⟩

/-- how a call with keywords binds: g puts the positional values us and the keywords' values ws (names ks) in the parameters' order, defaults among them -/
structure KBinds (K : PySem.W.Frag) (fd : FuncData) (ps ks : List Str) (g : List Value → List Value → List Value) (gV : List V → List V → List V) : Prop where
  to : ∀ (s : Shared) (us ws : List Value), K.In s.heap → (g us ws).length = ps.length → BindsTo s fd ⟨us, ks.zip ws⟩ (ps.zip (g us ws))
  rel : ∀ {vs : List V} {us : List Value} {zs : List V} {ws : List Value}, Vals vs us → Vals zs ws → Vals (gV vs zs) (g us ws)
def tCallK (sp : Sp) (gV : List V → List V → List V) (E : XK) (t tk : TA) : TE := fun σ H Q => t σ H fun vs H1 => tk σ H1 fun zs H2 => sp (gV vs zs) H2 Q E
variable {g : List Value → List Value → List Value} {gV : List V → List V → List V}
theorem run_fnk {pins : List (Addr × Obj)} {σ : St} {H : Hp} {s : Shared} {Q : VK} {us ws : List Value} {vs zs : List V} (F : FnOk X.prog X.w X.K X.mg X.base CX k f fd ps sp) (hr : Room k X.A) (hb : KBinds X.K fd ps ks g gV) (hx : Passes CX X E)
    (I : Inv X pins σ H s) (r : Vals vs us) (rz : Vals zs ws) (h : sp (gV vs zs) H Q E) : wpAny (model X.prog X.w) X.A (call (.ref f) us (ks.zip ws)) (EP X pins σ Q) X.xe s := by
  have r2 := hb.rel r rz
  have hl : (g us ws).length = ps.length := by rw [← r2.length]; exact F.len _ _ _ _ h
  refine wpAny_call (codeAny_mono (F.run X.A X.stack s H ⟨us, ks.zip ws⟩ (g us ws) (gV vs zs) Q E hr I.env0 (hb.to s us ws I.kIn hl) r2 h) fun r s' hq => ?_)
  cases r with
  | error e => exact hx pins σ H s e s' I hq
  | ok fl =>
    cases fl with
    | ret u => exact I.after hq
    | next => exact False.elim hq
    | brk => exact False.elim hq
    | cont => exact False.elim hq
/-- f(e, .., k = v, ..) -/
theorem pe_callK (F : FnOk X.prog X.w X.K X.mg X.base CX k f fd ps sp) (hr : Room k X.A) (hg : Gl X x) (hm : X.mg x = some (.ref f)) (hk : PySem.W.keepIn X.K (.ref f) = true) (hb : KBinds X.K fd ps ks g gV) (hx : Passes CX X E)
    (ha : PA X (e :: es) t) (hkw : PK X kws tk) (hall : (backToKw pos (keywordEach kws X.env)).all (·.1.isSome) = true := by rfl) (hks : (backToKw pos (keywordEach kws X.env)).filterMap (·.1) = ks := by rfl)
    (hdb : (x == ("__debug__" : Str)) = false := by decide) (he : starEach (e :: es) X.env = (false, eval e X.env) :: starEach es X.env := by rfl)
    (hpl : ((backTo pos (starEach (e :: es) X.env)).any (·.1) || (backToKw pos (keywordEach kws X.env)).any (·.1.isNone)) = false := by rfl) :
    PE X (.Call (.Name x p) (e :: es) kws pos) (tCallK sp gV E t tk) := by
  intro pins s σ H Q I h
  refine wpAny_Call_Name_kw (ld_glob I hg hm ?_ hdb)
  refine PySem.W.callWith_KW (h₀ := X.base) I.ok.mod.kin hk hall (thn (ha pos pins s σ H _ I h) fun us s1 ⟨vs, H1, I1, r, q⟩ => ?_) hpl he
  refine thn (hkw pos pins s1 σ H1 _ I1 q) fun ws s2 ⟨zs, H2, I2, rz, q2⟩ => ⟨I2.kIn, ?_⟩
  rw [hks]
  exact run_fnk F hr hb hx I2 r rz q2
end

/-! ### a def's body keeps its promise -/
/-- names: the parameters first -/
structure FnScope (N P : List Str) (sc : Scope) : Prop where
  kind : sc.kind = .function
  co : sc.isCoroutine = false
  gen : sc.isGenerator = false
  nd : N.Nodup
  pre : N.take P.length = P
  par : ∀ x ∈ P, sc.names.lookup x = some .local ∨ sc.names.lookup x = some .cell
  nofree : ∀ y ∈ sc.names, y.2 ≠ .free

theorem bindL_out {kindOf : Str → Option NameKind} {x : Str} : ∀ {binds : List (Str × Value)} {m : Str → Option Value}, (∀ v, (x, v) ∉ binds) → bindL kindOf binds m x = m x
  | [], _, _ => rfl
  | (n, v) :: r, m, h => by
    unfold bindL
    rw [bindL_out fun w hw => h w (List.mem_cons_of_mem _ hw)]
    split
    · have : x ≠ n := by rintro rfl; exact h v List.mem_cons_self
      simp [this]
    · rfl
theorem bindC_out {kindOf : Str → Option NameKind} {x : Str} : ∀ {binds : List (Str × Value)} {m : Str → Option Value}, (∀ v, (x, v) ∉ binds) → bindC kindOf binds m x = m x
  | [], _, _ => rfl
  | (n, v) :: r, m, h => by
    unfold bindC
    rw [bindC_out fun w hw => h w (List.mem_cons_of_mem _ hw)]
    split
    · rfl
    · have : x ≠ n := by rintro rfl; exact h v List.mem_cons_self
      simp [this]
theorem bindL_get {kindOf : Str → Option NameKind} {x : Str} {v : Value} : ∀ {P : List Str} {vs : List Value} {i : Nat} {m : Str → Option Value}, P.Nodup → P[i]? = some x → vs[i]? = some v → kindOf x = some .local →
    bindL kindOf (P.zip vs) m x = some v
  | [], _, _, _, _, h, _, _ => by simp at h
  | _ :: _, [], _, _, _, _, h, _ => by simp at h
  | p :: P, w :: vs, 0, m, nd, h1, h2, hk => by
    simp at h1 h2; subst h1; subst h2
    show bindL kindOf ((p, w) :: P.zip vs) m p = _
    unfold bindL
    rw [bindL_out fun v hv => (List.nodup_cons.mp nd).1 (List.of_mem_zip hv).1, if_pos hk]
    simp
  | p :: P, w :: vs, i + 1, m, nd, h1, h2, hk => by
    show bindL kindOf ((p, w) :: P.zip vs) m x = _
    unfold bindL
    exact bindL_get (i := i) (List.nodup_cons.mp nd).2 (by simpa using h1) (by simpa using h2) hk
theorem bindC_get {kindOf : Str → Option NameKind} {x : Str} {v : Value} : ∀ {P : List Str} {vs : List Value} {i : Nat} {m : Str → Option Value}, P.Nodup → P[i]? = some x → vs[i]? = some v → kindOf x ≠ some .local →
    bindC kindOf (P.zip vs) m x = some v
  | [], _, _, _, _, h, _, _ => by simp at h
  | _ :: _, [], _, _, _, _, h, _ => by simp at h
  | p :: P, w :: vs, 0, m, nd, h1, h2, hk => by
    simp at h1 h2; subst h1; subst h2
    show bindC kindOf ((p, w) :: P.zip vs) m p = _
    unfold bindC
    rw [bindC_out fun v hv => (List.nodup_cons.mp nd).1 (List.of_mem_zip hv).1, if_neg hk]
    simp
  | p :: P, w :: vs, i + 1, m, nd, h1, h2, hk => by
    show bindC kindOf ((p, w) :: P.zip vs) m x = _
    unfold bindC
    exact bindC_get (i := i) (List.nodup_cons.mp nd).2 (by simpa using h1) (by simpa using h2) hk

/-- the names' values at the entry -/
def start (N : List Str) (vs : List V) : St := vs.map some ++ List.replicate (N.length - vs.length) none

/-- the context of a def's body, at its entry; an exception leaves the frame, then lies as CX says -/
def cxOf (CX : CXT) (P : Program) (w : World) (K : PySem.W.Frag) (mg : Str → Option Value) (base : Heap) (N : List Str) (qual : Str) (scope : Scope) (f : Addr) (cd : Value) (A : Around) (outer : List Env) (s : Shared) (H : Hp) (E : XK) : Cx where
  prog := P
  w := w
  K := K
  mg := mg
  base := base
  A := A.deeper (envOfC qual scope s.heap.objs.size f cd)
  N := N
  s₀ := s
  H₀ := H
  env := envOfC qual scope s.heap.objs.size f cd
  outer := outer
  stack := envOfC qual scope s.heap.objs.size f cd :: outer
  ex := []
  calm := true
  fn := fun _ => true
  pn := []
  xe := fun e s' => wpAny (model P w) (A.deeper (envOfC qual scope s.heap.objs.size f cd)) (leaving (envOfC qual scope s.heap.objs.size f cd) e) (fun _ s'' => CX outer H s E e s'') (fun e' s'' => CX outer H s E e' s'') s'

theorem cell_has {sc : Scope} {n : Nat} {x : Str} (h : sc.names.lookup x = some .cell) : ∃ c, (cellsFrom n sc.names []).lookup x = some c := by
  have q := PySem.W.cellsFrom_some sc.names n [] (.inl h)
  exact Option.isSome_iff_exists.mp q

theorem inv_start {CX : CXT} {P : Program} {w : World} {K : PySem.W.Frag} {mg : Str → Option Value} {base : Heap} {N ps : List Str} {qual : Str} {scope : Scope} {f : Addr} {cd : Value} {A : Around} {outer : List Env} {s s1 : Shared} {H : Hp} {E : XK} {us : List Value} {vs : List V}
    (S : FnScope N ps scope) (hd : A.handled = none) (e0 : Env0 P w K mg base A outer s H) (hl : vs.length = ps.length) (r : Vals vs us)
    (x : InCallC s s.heap.objs.size (bindL (envOfC qual scope s.heap.objs.size f cd).kindOf (ps.zip us) fun _ => none) (cellsFrom (s.heap.objs.size + 1) scope.names []) (bindC (envOfC qual scope s.heap.objs.size f cd).kindOf (ps.zip us) fun _ => none) s1) :
    Inv (cxOf CX P w K mg base N qual scope f cd A outer s H E) [] (start N vs) H s1 := by
  have hpl : ps.length ≤ N.length := by have := congrArg List.length S.pre; rw [List.length_take] at this; omega
  obtain ⟨h1, tk, rfl, hk⟩ := x.done
  have noA : ∀ b : Addr, b ∉ (cxOf CX P w K mg base N qual scope f cd A outer s H E).ex := fun b z => absurd (show b ∈ ([] : List Addr) from z) (by simp)
  refine ⟨⟨e0.mod, S.kind, rfl, rfl, Nat.le_refl _, fun y z c h1 h2 => ?_, fun y hy => ?_, fun y c _ h => ?_, fun _ => hd, Around.frames_deeper e0.frames, .inr ⟨rfl, rfl⟩, fun b z => absurd z (noA b), e0.bs, e0.bsz, fun b _ _ => noA b, fun b z => absurd z (noA b), e0.funs, e0.frf⟩,
    rfl, e0.bare, Un.kept hk, ⟨_, x.toInCall.ns, fun i y v h1 h2 h3 => ?_⟩, fun y c h => ⟨_, x.cell y c h⟩, e0.hok.fresh (Nat.le_refl _), fun y c h => ?_, fun p hp => absurd (show p ∈ ([] : List (Addr × Obj)) from hp) (by simp), e0.hok.kept hk, ?_⟩
  · exact name_of_addr x.apart (PySem.mem_of_lookup h1) (PySem.mem_of_lookup h2)
  · have hy : scope.names.lookup y = some .cell ∨ scope.names.lookup y = some .free := hy
    rcases hy with hy | hy
    · exact cell_has hy
    · exact absurd rfl (S.nofree _ (PySem.mem_of_lookup hy))
  · exact Nat.le_of_lt (x.above y c (PySem.mem_of_lookup h))
  · have hi : i < vs.length := by
      unfold start at h2
      by_cases hi : i < vs.length
      · exact hi
      · rw [List.getElem?_append_right (by simpa using hi)] at h2
        rw [List.getElem?_replicate] at h2
        split at h2 <;> cases h2
    have ha : vs[i]? = some v := by
      unfold start at h2
      rw [List.getElem?_append_left (by simpa using hi), List.getElem?_map] at h2
      cases e : vs[i]? with
      | none => rw [e] at h2; cases h2
      | some a => rw [e] at h2; cases h2; rfl
    obtain ⟨u, hu, rv⟩ := r.get ha
    have hp : ps[i]? = some y := by
      rw [← S.pre, List.getElem?_take_of_lt (by omega)]; exact h1
    have ndP : ps.Nodup := by rw [← S.pre]; exact S.nd.sublist (List.take_sublist _ _)
    refine ⟨u, rv, ?_⟩
    rcases S.par y (List.mem_of_getElem? hp) with k | k
    · exact .inl ⟨k, bindL_get ndP hp hu k⟩
    · obtain ⟨c, e⟩ := cell_has (n := s.heap.objs.size + 1) k
      refine .inr ⟨.inl k, c, e, ?_⟩
      have q := x.cell y c e
      rw [bindC_get ndP hp hu (by show scope.names.lookup y ≠ _; rw [k]; decide)] at q
      exact q
  · exact e0.hok.fresh (Nat.le_of_lt (x.above y c (PySem.mem_of_lookup h)))
  · unfold start
    show _ = N.length
    rw [List.length_append, List.length_map, List.length_replicate]
    omega

/-- THE RULE: a def (or a method) of the text, by its body. The body's reading t is chosen for each entry; it is run at the parameters' values -/
theorem fn_of {CX : CXT} {P : Program} {w : World} {K : PySem.W.Frag} {mg : Str → Option Value} {base : Heap} {k : Nat} {f : Addr} {name qual : Str} {params : Arguments} {body : List Stmt} {scope : Scope} {dV kV doc pm cdv ct oc : Value} {an od : Option Addr}
    {osl : Array (Option Value)} {N ps : List Str} {sp : Sp} (lk : K.lookup f = some ⟨oc, od, .func (PySem.W.fnOf name qual params body scope dV kV doc pm an cdv ct), osl⟩) (hcd : PySem.W.codeIn K cdv qual = true) (S : FnScope N ps scope)
    (len : ∀ vs H Q E, sp vs H Q E → vs.length = ps.length)
    (hbody : ∀ (A : Around) (outer : List Env) (s : Shared) (H : Hp) (vs : List V) (Q : VK) (E : XK), Room k (A.deeper (envOfC qual scope s.heap.objs.size f cdv)) → sp vs H Q E →
      ∃ t, PSs (cxOf CX P w K mg base N qual scope f cdv A outer s H E) body t ∧ t { nx := fun _ H' => Q .non H', rt := Q } (start N vs) H) :
    FnOk P w K mg base CX (k + 1) f (PySem.W.fnOf name qual params body scope dV kV doc pm an cdv ct) ps sp := by
  refine ⟨len, fun A outer s H args us vs Q E hr e0 hb r hsp => ?_⟩
  have hl := len _ _ _ _ hsp
  have KX : K.In s.heap := e0.mod.kin.keeps fun b o e => (e0.bs b o e).1
  have lim : s.heap.NoLimit := e0.mod.nolimit.keeps fun b o e => (e0.bs b o e).1
  have hkind : ∀ y ∈ ps.zip us, scope.names.lookup y.1 = some .local ∨ (scope.names.lookup y.1 = some .cell ∧ ((cellsFrom (s.heap.objs.size + 1) scope.names []).lookup y.1).isSome = true) := fun ⟨n, v⟩ hy => by
    rcases S.par n (List.of_mem_zip hy).1 with q | q
    · exact .inl q
    · exact .inr ⟨q, PySem.W.cellsFrom_some _ _ _ (.inl q)⟩
  refine codeAny_call_function hr.depth (KX _ _ lk) rfl S.co S.gen rfl (PySem.W.codeRec_of KX hcd) (hb _ _ _ _ ?_)
  refine wpAny_newFunctionEnv_cells S.kind hkind fun env he s1 x => ?_
  subst he
  refine ⟨lim.keeps x.toInCall.keep, codeAny_func ?_⟩
  obtain ⟨t, ht, hq⟩ := hbody A outer s H vs Q E (hr.deeper _) hsp
  have I : Inv (cxOf CX P w K mg base N qual scope f cdv A outer s H E) [] (start N vs) H s1 := inv_start S hr.hd e0 hl r x
  refine wpAny_mono (ht [] s1 (start N vs) H _ I hq) (fun fl s' hs => ?_) fun e s' hs => hs
  have fin : ∀ {σ' : St} {H' : Hp} {v : V} {u : Value}, Inv (cxOf CX P w K mg base N qual scope f cdv A outer s H E) [] σ' H' s' → RelV v u → Q v H' → CE outer P w H s Q u s' :=
    fun {σ' H' v u} J rv q => ⟨v, H', J.os, J.bare, J.base, J.hok, rv, q⟩
  cases fl with
  | ret u =>
    obtain ⟨v, σ', H', J, rv, q⟩ := hs
    exact fin J rv q
  | next =>
    obtain ⟨σ', H', J, q⟩ := hs
    exact fin (v := V.non) (u := Value.none) J rfl q
  | brk =>
    obtain ⟨_, _, _, q⟩ := hs
    exact False.elim q
  | cont =>
    obtain ⟨_, _, _, q⟩ := hs
    exact False.elim q
end L2

namespace L2
open PySem PySem.Spec PyProof.Rows
section
variable {X : Cx} {x : Str} {p pos : Pos} {e : Expr} {es : List Expr} {t : TA} {id T : String} {r : List V → Hp → VK → Prop}

def tCB (r : List V → Hp → VK → Prop) (t : TA) : TE := fun σ H Q => t σ H fun vs H1 => r vs H1 Q
/-- f(e, ..), f a built-in function -/
theorem pe_callB (hc : CallR X (.builtin id) r) (hg : Gl X x) (hm : X.mg x = none) (hv : bootBuiltins x = some (.builtin id)) (ha : PA X (e :: es) t) (hn : x ≠ "__name__" := by decide) (hdb : (x == ("__debug__" : Str)) = false := by decide)
    (he : starEach (e :: es) X.env = (false, eval e X.env) :: starEach es X.env := by rfl) (hpl : (backTo pos (starEach es X.env)).any (·.1) = false := by rfl) : PE X (.Call (.Name x p) (e :: es) [] pos) (tCB r t) := by
  intro pins s σ H Q I h
  refine wpAny_Call_Name_kw (ld_blt I hg hm hv ?_ hn hdb)
  exact PyProof.Rows.callWith_builtin1 (thn (ha pos pins s σ H _ I h) fun us s1 ⟨vs, H1, I1, r1, q1⟩ => hc pins s1 σ H1 vs us Q I1 r1 q1) he hpl
/-- T(e, ..), T a built-in type -/
theorem pe_callTy (hc : CallR X (.type T) r) (hg : Gl X x) (hm : X.mg x = none) (hv : bootBuiltins x = some (.type T)) (ha : PA X (e :: es) t) (hn : x ≠ "__name__" := by decide) (hdb : (x == ("__debug__" : Str)) = false := by decide)
    (he : starEach (e :: es) X.env = (false, eval e X.env) :: starEach es X.env := by rfl) (hpl : (backTo pos (starEach es X.env)).any (·.1) = false := by rfl) : PE X (.Call (.Name x p) (e :: es) [] pos) (tCB r t) := by
  intro pins s σ H Q I h
  refine wpAny_Call_Name_kw (ld_blt I hg hm hv ?_ hn hdb)
  exact PyProof.Rows.callWith_type1 (thn (ha pos pins s σ H _ I h) fun us s1 ⟨vs, H1, I1, r1, q1⟩ => hc pins s1 σ H1 vs us Q I1 r1 q1) he hpl
/-- T() -/
theorem pe_callTy0 (hc : CallR X (.type T) r) (hg : Gl X x) (hm : X.mg x = none) (hv : bootBuiltins x = some (.type T)) (hn : x ≠ "__name__" := by decide) (hdb : (x == ("__debug__" : Str)) = false := by decide) :
    PE X (.Call (.Name x p) [] [] pos) (tCB r tNil) := by
  intro pins s σ H Q I h
  refine wpAny_Call_Name_kw (ld_blt I hg hm hv ?_ hn hdb)
  exact PyProof.Rows.callWith_type0 (hc pins s σ H [] [] Q I .nil h)
end
end L2

namespace HT
open PySem PyProof.Rows

/-- t < u of tuples of ints -/
def lexLt : List Int → List Int → Bool
  | [], [] => false
  | [], _ :: _ => true
  | _ :: _, [] => false
  | x :: xs, y :: ys => if x = y then lexLt xs ys else decide (x < y)
theorem lexLt_cons (x y : Int) (xs ys : List Int) : lexLt (x :: xs) (y :: ys) = if x = y then lexLt xs ys else decide (x < y) := rfl
theorem lexLt_nil_nil : lexLt [] [] = false := rfl
theorem lexLt_nil_cons (y : Int) (ys : List Int) : lexLt [] (y :: ys) = true := rfl
theorem lexLt_cons_nil (x : Int) (xs : List Int) : lexLt (x :: xs) [] = false := rfl

theorem eqAt_int (A : Around) (s : Shared) (a : Int) (t : Tok) (c : Int) (u : Tok) : ∃ e, SeqAt.EqAt A s (.int a t) (.int c u) e ∧ (e = true ↔ a = c) :=
  ⟨(a == c), SeqAt.EqAt.int_int a t c u, by simp⟩
theorem rcLt_int (A : Around) (s : Shared) (a : Int) (t : Tok) (c : Int) (u : Tok) (prog : Program) (w : World) (E : Value → Shared → Prop) (Q : Value → Shared → Prop) (h : Q (.bool (decide (a < c))) s) :
    wpAny (model prog w) A (richCompare .Lt (.int a t) (.int c u)) Q E s :=
  (PyProof.Rows.lt_int h : wpAny (model prog w) A (compareOp .Lt (.int a t) (.int c u)) Q E s)

section
open PySem.SeqAt
open PySem.AutoSeq1 (wpAny_loadPart')
open PySem.MeetsSeq PySem.MeetsSeq2 PySem.MeetsSeq3

theorem tuple_lt_ints (l b : Addr) (items items2 : Array Value) (n n2 : Nat) (dd dd2 : Option Addr) (sl sl2 : Array (Option Value)) (ns ms : List Int) (hi : IntsAre items.toList ns) (hj : IntsAre items2.toList ms) :
    Meets (Builtin.«tuple.__lt__» ⟨[.ref l, .ref b], []⟩)
      (fun _ R s => s.heap.get? l = some { cls := .type "tuple", dict := dd, data := .seq items n, slots := sl } ∧ s.heap.get? b = some { cls := .type "tuple", dict := dd2, data := .seq items2 n2, slots := sl2 } ∧
        R (.ok (.ret (.bool (lexLt ns ms)))) s) :=
  .of_wp fun prog w A R s h => by
    obtain ⟨hp, g, d, tk, os⟩ := s; obtain ⟨hl, hb, h⟩ := h
    have f2 := AutoSeq1.sub_tuple_tuple
    have z1 : items.size = ns.length := by rw [← hi.length]; simp
    have z2 : items2.size = ms.length := by rw [← hj.length]; simp
    wp_walk using wpAny_loadPart' hl, wpAny_loadPart' hb, wpAny_forIn_list _ (fun rest b s' => b.1 = none ∧ s' = ⟨hp, g, d, tk, os⟩ ∧ ∃ (vs ws : List Value) (ns' ms' : List Int), rest = vs.zip ws ∧
      IntsAre vs ns' ∧ IntsAre ws ms' ∧ ns'.length + items2.size = ms'.length + items.size ∧ R (.ok (.ret (.bool (lexLt ns' ms')))) ⟨hp, g, d, tk, os⟩) _
    case turn =>
      rintro ⟨y, x⟩ rest b s' ⟨hb', rfl, vs, ws, ns', ms', hz, hvi, hwi, hlen, hR⟩
      cases hvi with
      | nil => rw [List.zip_nil_left] at hz; cases hz
      | cons a t hvi' =>
        cases hwi with
        | nil => rw [List.zip_nil_right] at hz; cases hz
        | cons c u hwi' =>
          rw [List.zip_cons_cons] at hz
          injection hz with hyx hrest
          injection hyx with hy hx
          subst hy hx
          rw [lexLt_cons] at hR
          simp only [List.length_cons] at hlen
          obtain ⟨e, he, hiff⟩ := eqAt_int A.in1 ⟨hp, g, d, tk, os⟩ a t c u
          refine wpAny_bind (he prog w _ _ ?_)
          cases e with
          | true =>
            rw [if_pos (hiff.mp rfl)] at hR
            wp_walk
            exact ⟨rfl, rfl, _, _, _, _, hrest, hvi', hwi', by omega, hR⟩
          | false =>
            rw [if_neg (fun q => absurd (hiff.mpr q) Bool.false_ne_true)] at hR
            have hri := rcLt_int A.in1 ⟨hp, g, d, tk, os⟩ a t c u prog w
            wp_walk using hri
            exact ⟨_, rfl, by simpa using hR⟩
    case fin =>
      rintro ⟨b1, b2⟩ s' ⟨hb', rfl, vs, ws, ns', ms', hz, hvi, hwi, hlen, hR⟩
      simp only at hb'
      subst hb'
      have hv : lexLt ns' ms' = decide (items.size < items2.size) := by
        cases hvi with
        | nil =>
          cases hwi with
          | nil =>
            simp only [List.length_nil] at hlen
            rw [lexLt_nil_nil]
            exact (decide_eq_false (by omega)).symm
          | cons c u hw =>
            simp only [List.length_nil, List.length_cons] at hlen
            rw [lexLt_nil_cons]
            exact (decide_eq_true (by omega)).symm
        | cons a t hv =>
          cases hwi with
          | nil =>
            simp only [List.length_nil, List.length_cons] at hlen
            rw [lexLt_cons_nil]
            exact (decide_eq_false (by omega)).symm
          | cons c u hw =>
            rw [List.zip_cons_cons] at hz
            cases hz
      rw [hv] at hR
      wp_walk
      exact ⟨_, rfl, by simpa [Builtin.Tuple.tupleCompareSizes] using hR⟩
    case h =>
      exact ⟨rfl, rfl, items.toList, items2.toList, ns, ms, rfl, hi, hj, by omega, h⟩
end

section
variable {prog : Program} {w : World} {A : Around} {E : Value → Shared → Prop} {s : Shared}

theorem lt_tupInts {l b : Addr} {items items2 : Array Value} {ns ms : List Int} {Q : Value → Shared → Prop} (hl : IsTup s.heap l items) (hb : IsTup s.heap b items2) (hi : IntsAre items.toList ns) (hj : IntsAre items2.toList ms)
    (hu : A.units < cLine) (h : Q (.bool (lexLt ns ms)) s) : wpAny (model prog w) A (compareOp .Lt (.ref l) (.ref b)) Q E s := by
  obtain ⟨⟨cls, dd, data, sl⟩, ho, hc, n, hd⟩ := id hl
  obtain ⟨⟨cls2, dd2, data2, sl2⟩, ho2, hc2, n2, hd2⟩ := id hb
  simp only at hc hd hc2 hd2
  subst hc hd hc2 hd2
  exact richCompare_meets_room (op := .Lt) ⟨_, ho, rfl⟩ ⟨_, ho2, rfl⟩ PySem.F.slot_tuple_lt PySem.F.entry_tuple_lt (PySem.F.args_tuple_lt_2 _ _) (tuple_lt_ints l b items items2 n n2 dd dd2 sl sl2 ns ms hi hj)
    ⟨ho, ho2, show Value.bool (lexLt ns ms) ≠ Value.notImplemented ∧ Q (.bool (lexLt ns ms)) s from ⟨(fun x => nomatch x), h⟩⟩ hu

/-- t + u, t not empty -/
theorem cat_tup {t b : Addr} {vs ws : List Value} {Q : Value → Shared → Prop} (ht : IsTup s.heap t vs.toArray) (hb : IsTup s.heap b ws.toArray) (hv : vs ≠ [])
    (h1 : ws = [] → Q (.ref t) s) (h2 : ws ≠ [] → Q (.ref s.heap.objs.size) { s with heap := s.heap.push { cls := .type "tuple", data := .seq (vs ++ ws).toArray } })
    (hsz : vs.length + ws.length ≤ sizeLine) : wpAny (model prog w) A (binaryOp .Add (.ref t) (.ref b)) Q E s := by
  obtain ⟨⟨cls, dd, data, sl⟩, ho, hc, n, hd⟩ := id ht
  obtain ⟨⟨cls2, dd2, data2, sl2⟩, ho2, hc2, n2, hd2⟩ := id hb
  simp only at hc hd hc2 hd2
  subst hc hd hc2 hd2
  have e : vs.toArray ++ ws.toArray = (vs ++ ws).toArray := by simp
  by_cases hw : ws = []
  · exact concat_meets ⟨_, ho, rfl⟩ ⟨_, ho2, rfl⟩ noFill_tuple_add seq_tuple_add PySem.F.slot_tuple_add PySem.F.entry_tuple_add (PySem.F.args_tuple_add_2 _ _)
      (tuple_addW1 t b vs.toArray ws.toArray n n2 dd dd2 sl sl2 (by simpa using hv) (by simp [hw])) ⟨ho, ho2, h1 hw⟩
  · refine concat_meets ⟨_, ho, rfl⟩ ⟨_, ho2, rfl⟩ noFill_tuple_add seq_tuple_add PySem.F.slot_tuple_add PySem.F.entry_tuple_add (PySem.F.args_tuple_add_2 _ _)
      (tuple_addW2 t b vs.toArray ws.toArray n n2 dd dd2 sl sl2 (by simpa using hv) (by simpa using hw) (by rw [List.size_toArray, List.size_toArray]; exact hsz)) ⟨ho, ho2, ?_⟩
    rw [e]
    exact h2 hw

/-! ### t[a:b], not the whole -/
/-- a slice's bound as a place among n (d where it is left out) -/
def sIx (n d : Nat) : Option Int → Nat
  | none => d
  | some v => if v < 0 then (v + (n : Int)).toNat else min v.toNat n
theorem sIx_none (n d : Nat) : sIx n d none = d := rfl
theorem sIx_nat (n d k : Nat) : sIx n d (some (k : Int)) = min k n := by
  show (if (k : Int) < 0 then ((k : Int) + (n : Int)).toNat else min (k : Int).toNat n) = min k n
  rw [if_neg (by omega), Int.toNat_natCast]
theorem sIx_le (n d : Nat) (hd : d ≤ n) (o : Option Int) : sIx n d o ≤ n := by
  cases o with
  | none => exact hd
  | some v =>
    show (if v < 0 then (v + (n : Int)).toNat else min v.toNat n) ≤ n
    by_cases hv : v < 0
    · rw [if_pos hv]; omega
    · rw [if_neg hv]; exact Nat.min_le_right _ _
theorem clip_eq (v : Int) (n d : Nat) : (if v < 0 then max (v + (n : Int)) 0 else min v (n : Int)) = ((sIx n d (some v) : Nat) : Int) := by
  show (if v < 0 then max (v + (n : Int)) 0 else min v (n : Int)) = (((if v < 0 then (v + (n : Int)).toNat else min v.toNat n) : Nat) : Int)
  by_cases hv : v < 0
  · simp only [if_pos hv]; omega
  · simp only [if_neg hv]; omega
theorem adjust_gen (lo hi : Option Int) (n : Nat) : Builtin.Slice.sliceAdjust lo hi 1 (n : Int) = (((sIx n 0 lo : Nat) : Int), ((sIx n n hi : Nat) : Int)) := by
  have h1 : ¬ ((1 : Int) < 0) := by omega
  unfold Builtin.Slice.sliceAdjust
  simp only [h1, if_false]
  refine Prod.ext ?_ ?_
  · cases lo with
    | none => rfl
    | some v => exact clip_eq v n 0
  · cases hi with
    | none => rfl
    | some v => exact clip_eq v n n
theorem places_gen (i j : Nat) : Builtin.Slice.slicePlaces (i : Int) (j : Int) 1 = j - i := by
  unfold Builtin.Slice.slicePlaces
  have h1 : (1 : Int) > 0 := by omega
  simp only [h1, if_true, Int.ediv_one]
  split <;> omega
theorem slicePart_ {v : Value} {o : Option Int} {Q : Option Int → Shared → Prop} (p : IsPart v o) (h : Q o s) : wpAny (model prog w) A (Builtin.Slice.slicePartIndex v) Q E s := by
  cases p with
  | none => exact slicePart_none h
  | int i t => exact slicePart_int h
theorem sliceApplied_gen {sl : Addr} {vl vu : Value} {lo hi : Option Int} {n : Nat} {Q : Int × Int × Nat → Shared → Prop} (hs : s.heap.IsSliceOf sl vl vu .none) (pl : IsPart vl lo) (pu : IsPart vu hi)
    (h : Q (((sIx n 0 lo : Nat) : Int), 1, sIx n n hi - sIx n 0 lo) s) : wpAny (model prog w) A (Builtin.Slice.sliceApplied (.ref sl) (pure (n : Int))) Q E s := by
  obtain ⟨os, hos, hcs, hds⟩ := id hs
  unfold Builtin.Slice.sliceApplied Builtin.Slice.sliceFields
  refine wpAny_bind (wpAny_bind (wpAny_field hos hds (x := vl) rfl (wpAny_bind (wpAny_field hos hds (x := vu) rfl (wpAny_bind (wpAny_field hos hds (x := .none) rfl (wpAny_pure ?_)))))))
  refine wpAny_bind (slicePart_none ?_)
  show wpAny _ _ (if ((1 : Int) == 0) = true then _ else _) _ _ s
  rw [if_neg (by decide)]
  refine wpAny_bind (slicePart_ pl (wpAny_bind (slicePart_ pu (wpAny_bind (wpAny_pure ?_)))))
  show wpAny _ _ (match Builtin.Slice.sliceAdjust lo hi 1 (n : Int) with | (lo, hi) => pure (lo, (1 : Int), Builtin.Slice.slicePlaces lo hi 1)) _ _ s
  rw [adjust_gen lo hi n]
  show wpAny _ _ (pure (((sIx n 0 lo : Nat) : Int), (1 : Int), Builtin.Slice.slicePlaces ((sIx n 0 lo : Nat) : Int) ((sIx n n hi : Nat) : Int) 1)) _ _ s
  rw [places_gen]
  exact wpAny_pure h
theorem pick_gen (xs : Array Value) (i k : Nat) : ((List.range k).filterMap fun (m : Nat) => xs[((i : Int) + (m : Int) * 1).toNat]?).toArray = ((xs.toList.drop i).take k).toArray := by
  have e : (fun (m : Nat) => xs[((i : Int) + (m : Int) * 1).toNat]?) = fun m => xs[i + m]? := by
    funext m
    have : ((i : Int) + (m : Int) * 1).toNat = i + m := by omega
    rw [this]
  rw [e]
  have := pick_run xs i k
  rw [List.filterMap_map] at this
  have e2 : ((fun x => xs[x]?) ∘ fun x => i + x) = fun m => xs[i + m]? := rfl
  rw [e2] at this
  rw [this]

theorem getItem_tuple_cut {t sl : Addr} {items : Array Value} {vl vu : Value} {lo hi : Option Int} {Q : Value → Shared → Prop} (ht : IsTup s.heap t items) (hs : s.heap.IsSliceOf sl vl vu .none) (pl : IsPart vl lo) (pu : IsPart vu hi)
    (hw : ¬ (sIx items.size 0 lo = 0 ∧ sIx items.size items.size hi = items.size))
    (h : Q (.ref s.heap.objs.size) { s with heap := s.heap.push { cls := .type "tuple", data := .seq ((items.toList.drop (sIx items.size 0 lo)).take (sIx items.size items.size hi - sIx items.size 0 lo)).toArray } })
    (hsz : items.size ≤ sizeLine) : wpAny (model prog w) A (getItem (.ref t) (.ref sl)) Q E s := by
  have htake : sizeOk (.seq ((items.toList.drop (sIx items.size 0 lo)).take (sIx items.size items.size hi - sIx items.size 0 lo)).toArray) := by
    show ((items.toList.drop (sIx items.size 0 lo)).take (sIx items.size items.size hi - sIx items.size 0 lo)).toArray.size ≤ sizeLine
    rw [List.size_toArray, List.length_take, List.length_drop, Array.length_toList]
    omega
  have hj : sIx items.size items.size hi ≤ items.size := sIx_le _ _ (Nat.le_refl _) hi
  obtain ⟨os, hos, hcs, hds⟩ := id hs
  have hTs : s.TypeIs (.ref sl) "slice" := ⟨os, hos, hcs⟩
  unfold getItem
  try with_reducible refine wpAny_holding ?_
  first | refine wpAny_bind (wpAny_pure ?_) | skip
  refine wpAny_bind (wpAny_sequenceKey ht.typeIs (by decide) ?_)
  refine wpAny_bind (wpAny_callSpecial?_slot (name := Str.ofString "__getitem__") ht.typeIs PyProof.Rows.slot_tuple_getitem
    (wpAny_call_entry PyProof.Rows.slot_tuple_getitem ht.typeIs entry_tuple_getitem ?_ (args_tuple_getitem _ _)))
  show wpAny _ _ (Builtin.Tuple.tupleItemsOf (.ref t) >>= _) _ _ s
  refine wpAny_bind (tupleItemsOf_ ht ?_)
  refine wpAny_bind (wpAny_typeOf hTs ?_)
  rw [if_pos (by decide)]
  refine wpAny_bind (sliceApplied_gen hs pl pu ?_)
  have hno : ¬ ((((sIx items.size 0 lo : Nat) : Int) == 0 && (1 : Int) == 1 && (sIx items.size items.size hi - sIx items.size 0 lo) == items.size) = true) := by
    intro q
    rw [Bool.and_eq_true, Bool.and_eq_true] at q
    have q1 : ((sIx items.size 0 lo : Nat) : Int) = 0 := eq_of_beq q.1.1
    have q2 : sIx items.size items.size hi - sIx items.size 0 lo = items.size := eq_of_beq q.2
    exact hw ⟨by omega, by omega⟩
  show wpAny _ _ (if (((sIx items.size 0 lo : Nat) : Int) == 0 && (1 : Int) == 1 && (sIx items.size items.size hi - sIx items.size 0 lo) == items.size) = true then _ else _) _ _ s
  rw [if_neg hno, pick_gen]
  first
    | exact wpAny_bind (m := Builtin.Tuple.tupleExact _) (wpAny_newObj_type (wpAny_pure ⟨_, rfl, wpAny_pure h⟩) htake)
    | exact wpAny_bind (m := Builtin.Tuple.tupleExact _) (wpAny_newObj_type (wpAny_bind (wpAny_pure (wpAny_pure ⟨_, rfl, wpAny_pure h⟩))) htake)
    | exact wpAny_bind (wpAny_bind (m := Builtin.Tuple.tupleExact _) (wpAny_newObj_type (wpAny_pure (wpAny_pure ⟨_, rfl, wpAny_pure h⟩)) htake))
    | exact wpAny_bind (wpAny_bind (m := Builtin.Tuple.tupleExact _) (wpAny_newObj_type (wpAny_pure ⟨_, rfl, wpAny_pure h⟩) htake))
end
end HT

namespace L2
open PySem PySem.Spec PyProof.Rows

/-! ### the parts of a slice -/
abbrev TO := St → Hp → (Option Int → Hp → Prop) → Prop
/-- a slice's part (left out, or an int) -/
def PO (X : Cx) (e : Option Expr) (t : TO) : Prop :=
  ∀ (pins : List (Addr × Obj)) (s : Shared) (σ : St) (H : Hp) (Q : Option Int → Hp → Prop), Inv X pins σ H s → t σ H Q →
    wpAny (model X.prog X.w) X.A (evalPart e X.env) (fun u s' => ∃ o H', Inv X pins σ H' s' ∧ IsPart u o ∧ Q o H') X.xe s
def tNoPart : TO := fun _ H Q => Q none H
def tPart (t : TE) : TO := fun σ H Q => t σ H fun x H1 => ∃ i, x = .int i ∧ Q (some i) H1

theorem intsAre_of {ns : List Int} : ∀ {us : List Value}, Vals (ns.map V.int) us → IntsAre us ns := by
  induction ns with
  | nil => intro us r; rw [List.map_nil] at r; cases r; exact .nil
  | cons n ns ih =>
    intro us r
    rw [List.map_cons] at r
    cases r with
    | cons r1 r2 =>
      obtain ⟨t, e⟩ := r1
      subst e
      exact .cons n t (ih r2)

section
variable {X : Cx} {e : Expr} {te : TE} {lo hi : Option Expr} {tl th : TO} {pos p2 : Pos}

theorem po_none : PO X none tNoPart := by
  intro pins s σ H Q I h
  rw [evalPart_none]
  exact wpAny_pure ⟨none, H, I, .none, h⟩
theorem po_some (h : PE X e te) : PO X (some e) (tPart te) := by
  intro pins s σ H Q I hw
  rw [evalPart_some]
  refine thn (h pins s σ H _ I hw) fun u s1 ⟨x, H1, I1, r1, q1⟩ => ?_
  obtain ⟨i, rfl, q⟩ := q1
  obtain ⟨t, rfl⟩ := r1
  exact ⟨some i, H1, I1, .int i t, q⟩

/-- what a slice of a value is, by values: the slice object stands at sl -/
def SlR (X : Cx) (r : V → Option Int → Option Int → Hp → VK → Prop) : Prop :=
  ∀ (pins : List (Addr × Obj)) (s : Shared) (σ : St) (H : Hp) (x : V) (v vl vu : Value) (lo hi : Option Int) (sl : Addr) (Q : VK), Inv X pins σ H s → RelV x v → s.heap.IsSliceOf sl vl vu .none → IsPart vl lo → IsPart vu hi → r x lo hi H Q →
    ∃ T id, typeLookup (.type T) "__getitem__" = pure (some (.builtin id)) ∧ s.TypeIs v T ∧ wpAny (model X.prog X.w) X.A (getItem v (.ref sl)) (EP X pins σ Q) X.xe s
theorem SlR.or {r r' : V → Option Int → Option Int → Hp → VK → Prop} (h : SlR X r) (h' : SlR X r') : SlR X (fun x lo hi H Q => r x lo hi H Q ∨ r' x lo hi H Q) := by
  intro pins s σ H x v vl vu lo hi sl Q I rx hs pl pu q
  rcases q with q | q
  · exact h pins s σ H x v vl vu lo hi sl Q I rx hs pl pu q
  · exact h' pins s σ H x v vl vu lo hi sl Q I rx hs pl pu q
def tSl (r : V → Option Int → Option Int → Hp → VK → Prop) (te : TE) (tl th : TO) : TE := fun σ H Q => te σ H fun x H1 => tl σ H1 fun l H2 => th σ H2 fun u H3 => r x l u H3 Q
/-- a[lo:hi], any a -/
theorem pe_slice {r : V → Option Int → Option Int → Hp → VK → Prop} (hr : SlR X r) (he : PE X e te) (hl : PO X lo tl) (hu : PO X hi th) : PE X (.Subscript e (.Slice lo hi none p2) pos) (tSl r te tl th) := by
  intro pins s σ H Q I h
  refine Subscript_ (thn (he pins s σ H _ I h) fun v s1 ⟨x, H1, I1, r1, q1⟩ => ?_)
  refine wpAny_Slice (thn (hl pins s1 σ H1 _ I1 q1) fun vl s2 ⟨l, H2, I2, pl, q2⟩ => thn (hu pins s2 σ H2 _ I2 q2) fun vu s3 ⟨u, H3, I3, pu, q3⟩ => ?_)
  rw [evalPart_none]
  refine wpAny_pure ?_
  have I4 : Inv X pins σ H3 { s3 with heap := s3.heap.push { cls := .type "slice", data := .fields #[vl, vu, .none] } } := I3.kept (t' := s3.toks) fun b ob q => Heap.get?_push_of_some _ q
  obtain ⟨T, id, hT, ht, hg⟩ := hr pins { s3 with heap := s3.heap.push { cls := .type "slice", data := .fields #[vl, vu, .none] } } σ H3 x v vl vu l u s3.heap.objs.size Q I4 r1 (Heap.IsSliceOf.new ..) pl pu q3
  show wpAny (model X.prog X.w) X.A (subscriptTail e (.Slice lo hi none p2) v (.ref s3.heap.objs.size)) (EP X pins σ Q) X.xe { s3 with heap := s3.heap.push { cls := .type "slice", data := .fields #[vl, vu, .none] } }
  exact tail_any (ops := [.ref s3.heap.objs.size, v]) ht hT hg (by with_unfolding_all rfl)

/-- the items of xs[lo:hi] -/
def cutV (xs : List V) (lo hi : Option Int) : List V := (xs.drop (HT.sIx xs.length 0 lo)).take (HT.sIx xs.length xs.length hi - HT.sIx xs.length 0 lo)
theorem cutV_length (xs : List V) (lo hi : Option Int) : (cutV xs lo hi).length ≤ xs.length := by
  unfold cutV
  rw [List.length_take, List.length_drop]
  omega
/-- t[lo:hi], not the whole of it (the whole would be t itself) -/
def rSlT (K : PySem.W.Frag) : V → Option Int → Option Int → Hp → VK → Prop := fun x lo hi H Q => ∃ a xs, x = .ref a ∧ SqT K H a xs ∧
  ¬ (HT.sIx xs.length 0 lo = 0 ∧ HT.sIx xs.length xs.length hi = xs.length) ∧ ∀ p, H p = none → Q (.ref p) (upd H p (.tup (cutV xs lo hi)))
theorem sl_tup : SlR X (rSlT X.K) := by
  intro pins s σ H x v vl vu lo hi sl Q I rx hs pl pu h
  obtain ⟨a, xs, rfl, hx, hw, q⟩ := h
  cases rx
  obtain ⟨its, r, ht, hz⟩ := I.tuple hx
  have hlen : its.toArray.size = xs.length := by rw [List.size_toArray]; exact r.length.symm
  refine ⟨"tuple", _, PyProof.Rows.slot_tuple_getitem.lookup, ht.typeIs, ?_⟩
  refine HT.getItem_tuple_cut ht hs pl pu (by rw [hlen]; exact hw) ?_ (by rw [hlen]; exact hz)
  rw [hlen]
  refine ⟨.ref s.heap.objs.size, _, I.laid (t' := s.toks) (o := .tup (cutV xs lo hi)) (fun b ob q => Heap.get?_push_of_some _ q) (Nat.le_refl _) ?_, rfl, q _ (I.hok.fresh (Nat.le_refl _))⟩
  exact ⟨Nat.le_trans (cutV_length xs lo hi) hz, _, (r.drop (HT.sIx xs.length 0 lo)).take (HT.sIx xs.length xs.length hi - HT.sIx xs.length 0 lo), IsTup.new _ _⟩

/-! ### t < u, t + u -/
def rLtT (K : PySem.W.Frag) : R2 := fun x y H Q => ∃ a b ns ms, x = .ref a ∧ y = .ref b ∧ SqT K H a (ns.map V.int) ∧ SqT K H b (ms.map V.int) ∧ Q (.bl (HT.lexLt ns ms)) H
theorem op_ltT (hu : X.A.units < cLine) : OpR X (compareOp .Lt) (rLtT X.K) := by
  intro pins s σ H x y v u Q I rx ry h
  obtain ⟨a, b, ns, ms, rfl, rfl, ha, hb, q⟩ := h
  cases rx
  cases ry
  obtain ⟨its, r1, p1, _⟩ := I.tuple ha
  obtain ⟨its2, r2, p2, _⟩ := I.tuple hb
  have i1 : IntsAre its.toArray.toList ns := intsAre_of r1
  have i2 : IntsAre its2.toArray.toList ms := intsAre_of r2
  exact HT.lt_tupInts p1 p2 i1 i2 hu ⟨.bl (HT.lexLt ns ms), H, I, rfl, q⟩
/-- t + u, t not empty: u empty gives t itself -/
def rCatT (K : PySem.W.Frag) : R2 := fun x y H Q => ∃ a b xs ys, x = .ref a ∧ y = .ref b ∧ SqT K H a xs ∧ SqT K H b ys ∧ xs ≠ [] ∧ xs.length + ys.length ≤ sizeLine ∧
  (ys = [] → Q (.ref a) H) ∧ (ys ≠ [] → ∀ p, H p = none → Q (.ref p) (upd H p (.tup (xs ++ ys))))
theorem Vals.nil_iff {xs : List V} {us : List Value} (r : Vals xs us) : us = [] ↔ xs = [] := by
  cases r with
  | nil => simp
  | cons _ _ => simp
theorem op_catT : OpR X (binaryOp .Add) (rCatT X.K) := by
  intro pins s σ H x y v u Q I rx ry h
  obtain ⟨a, b, xs, ys, rfl, rfl, ha, hb, hx, hz, q1, q2⟩ := h
  cases rx
  cases ry
  obtain ⟨its, r1, p1, _⟩ := I.tuple ha
  obtain ⟨its2, r2, p2, _⟩ := I.tuple hb
  refine HT.cat_tup p1 p2 (fun z => hx (r1.nil_iff.mp z)) (fun z => ⟨.ref a, H, I, rfl, q1 (r2.nil_iff.mp z)⟩) (fun z => ?_) (by rw [← r1.length, ← r2.length]; exact hz)
  refine ⟨.ref s.heap.objs.size, _, I.laid (t' := s.toks) (o := .tup (xs ++ ys)) (fun b ob q => Heap.get?_push_of_some _ q) (Nat.le_refl _) ?_, rfl, q2 (fun w => z (r2.nil_iff.mpr w)) _ (I.hok.fresh (Nat.le_refl _))⟩
  exact ⟨by rw [List.length_append]; exact hz, _, r1.append r2, IsTup.new _ _⟩
/-- tuple(t) -/
theorem call_tupleT : CallR X (.type "tuple") (fun xs H Q => ∃ a ys, xs = [.ref a] ∧ SqT X.K H a ys ∧ Q (.ref a) H) := by
  intro pins s σ H xs us Q I r h
  obtain ⟨a, ys, rfl, ha, q⟩ := h
  obtain ⟨u, rfl, ru⟩ := vals1 r
  cases ru
  obtain ⟨its, _, p1, _⟩ := I.tuple ha
  exact call_tuple_same (items := its.toArray) p1 ⟨.ref a, H, I, rfl, q⟩
end
end L2

namespace L2
open PySem PySem.Spec PyProof.Rows

/-! ### places -/
/-- the place that an index of any sign means -/
def ixN (n : Nat) (i : Int) : Option Nat := if 0 ≤ i then (if i < n then some i.toNat else none) else if -(n : Int) ≤ i then some (i + n).toNat else none
def atI {α : Type} (xs : List α) (i : Int) : Option α := (ixN xs.length i).bind fun j => xs[j]?
theorem ixN_seq {n : Nat} {i : Int} {j : Nat} (h : ixN n i = some j) : seqIndex? i n = some j ∧ j < n ∧ -(n : Int) ≤ i ∧ i < n := by
  unfold ixN at h
  by_cases h0 : 0 ≤ i
  · rw [if_pos h0] at h
    by_cases h1 : i < n
    · rw [if_pos h1] at h
      have e : i.toNat = j := Option.some.inj h
      exact ⟨by rw [seqIndex_of h0 h1, e], by omega, by omega, h1⟩
    · rw [if_neg h1] at h; cases h
  · rw [if_neg h0] at h
    by_cases h1 : -(n : Int) ≤ i
    · rw [if_pos h1] at h
      have e : (i + n).toNat = j := Option.some.inj h
      exact ⟨by rw [seqIndex_neg (by omega) h1, e], by omega, h1, by omega⟩
    · rw [if_neg h1] at h; cases h
theorem atI_get {α : Type} {xs : List α} {i : Int} {v : α} (h : atI xs i = some v) : ∃ j, seqIndex? i xs.length = some j ∧ xs[j]? = some v ∧ j < xs.length ∧ -(xs.length : Int) ≤ i ∧ i < xs.length := by
  unfold atI at h
  cases e : ixN xs.length i with
  | none => rw [e] at h; cases h
  | some j =>
    rw [e] at h
    obtain ⟨h1, h2, h3, h4⟩ := ixN_seq e
    exact ⟨j, h1, h, h2, h3, h4⟩
theorem atI_nat {α : Type} {xs : List α} {j : Nat} {v : α} (h : xs[j]? = some v) : atI xs (j : Int) = some v := by
  have hj : j < xs.length := (List.getElem?_eq_some_iff.mp h).1
  have e : ixN xs.length (j : Int) = some j := by
    unfold ixN
    rw [if_pos (by omega), if_pos (by omega)]; simp
  unfold atI; rw [e]; exact h
theorem atI_last {α : Type} (xs : List α) (v : α) : atI (xs ++ [v]) (-1) = some v := by
  have hl : (xs ++ [v]).length = xs.length + 1 := by simp
  have e : ixN (xs ++ [v]).length (-1) = some xs.length := by
    unfold ixN
    rw [hl, if_neg (by decide), if_pos (by omega)]
    congr 1
    omega
  unfold atI
  rw [e]
  show (xs ++ [v])[xs.length]? = some v
  simp

/-! ### what may be subscripted -/
/-- what stands as an index of a plain subscript -/
def PlainIx (b : Expr) : Prop := ∀ o i, subscripted b false o i = operate [o, i] (getItem o i)
/-- a subscript by values -/
def IxR (X : Cx) (r : R2) : Prop :=
  ∀ (value slice : Expr) (pins : List (Addr × Obj)) (s : Shared) (σ : St) (H : Hp) (x y : V) (v u : Value) (Q : VK), Inv X pins σ H s → RelV x v → RelV y u → r x y H Q →
    subscripted slice false v u = operate [v, u] (getItem v u) → wpAny (model X.prog X.w) X.A (subscriptTail value slice v u) (EP X pins σ Q) X.xe s
/-- a call of a builtin's method by values: the receiver, the arguments -/
def MtR (X : Cx) (id : String) (r : V → List V → Hp → VK → Prop) : Prop :=
  ∀ (pins : List (Addr × Obj)) (s : Shared) (σ : St) (H : Hp) (x : V) (xs : List V) (v : Value) (us : List Value) (Q : VK), Inv X pins σ H s → RelV x v → Vals xs us → r x xs H Q →
    wpAny (model X.prog X.w) X.A (call (.builtin id) (v :: us)) (EP X pins σ Q) X.xe s
section
variable {X : Cx} {a b : Expr} {ta tb : TE} {pos : Pos}
theorem IxR.or {r r' : R2} (h : IxR X r) (h' : IxR X r') : IxR X (fun x y H Q => r x y H Q ∨ r' x y H Q) := by
  intro value slice pins s σ H x y v u Q I rx ry q hs
  rcases q with q | q
  · exact h value slice pins s σ H x y v u Q I rx ry q hs
  · exact h' value slice pins s σ H x y v u Q I rx ry q hs
theorem MtR.or {id : String} {r r' : V → List V → Hp → VK → Prop} (h : MtR X id r) (h' : MtR X id r') : MtR X id (fun x xs H Q => r x xs H Q ∨ r' x xs H Q) := by
  intro pins s σ H x xs v us Q I rx rs q
  rcases q with q | q
  · exact h pins s σ H x xs v us Q I rx rs q
  · exact h' pins s σ H x xs v us Q I rx rs q
/-- a[b] -/
theorem pe_ix {r : R2} (hr : IxR X r) (ha : PE X a ta) (hb : PE X b tb) (hs : PlainIx b) : PE X (.Subscript a b pos) (tOp r ta tb) := by
  intro pins s σ H Q I h
  exact Subscript_ (binT ha hb I h fun v u s2 x y H2 I2 rx ry q => hr a b pins s2 σ H2 x y v u Q I2 rx ry q (hs _ _))

def rIxL (K : PySem.W.Frag) : R2 := fun x y H Q => ∃ p xs i v, x = .ref p ∧ y = .int i ∧ SqL K H p xs ∧ atI xs i = some v ∧ Q v H
def rIxT (K : PySem.W.Frag) : R2 := fun x y H Q => ∃ p xs i v, x = .ref p ∧ y = .int i ∧ SqT K H p xs ∧ atI xs i = some v ∧ Q v H
def rIxS : R2 := fun x y H Q => ∃ z i c, x = .str z ∧ y = .int i ∧ z.length ≤ sizeLine ∧ atI z.cps.toList i = some c ∧ Q (.str ⟨#[c]⟩) H
theorem ix_list : IxR X (rIxL X.K) := by
  intro value slice pins s σ H x y v u Q I rx ry h hs
  obtain ⟨p, xs, i, z, rfl, rfl, hq, he, q⟩ := h
  cases rx
  obtain ⟨t, rfl⟩ := ry
  obtain ⟨its, r, pl, hz⟩ := I.list hq
  obtain ⟨j, h1, h2, h3, h4, h5⟩ := atI_get he
  obtain ⟨w, ew, rw'⟩ := r.get h2
  have hl := r.length
  have hn := line63
  have fin : EP X pins σ Q w s := ⟨z, H, I, rw', q⟩
  by_cases h0 : 0 ≤ i
  · have hj : i.toNat = j := by
      rw [seqIndex_of h0 h5] at h1
      exact Option.some.inj h1
    exact item_listR pl.isList h0 (by omega) (by rw [hj]; simpa using ew) fin hs
  · have hj : (i + (its.toArray.size : Int)).toNat = j := by
      rw [seqIndex_neg (by omega) h4] at h1
      rw [List.size_toArray, ← hl]
      exact Option.some.inj h1
    exact subscriptTail_builtinR (x := w) pl.isList.typeIs slot_list_getitem.lookup
      (wpAny_getItem_list_neg (Q := fun r s' => r = w ∧ EP X pins σ Q r s') pl.isList (by omega) (by rw [List.size_toArray] <;> omega) (by omega) (by rw [hj]; simpa using ew) ⟨rfl, fin⟩) hs
theorem ix_tup : IxR X (rIxT X.K) := by
  intro value slice pins s σ H x y v u Q I rx ry h hs
  obtain ⟨p, xs, i, z, rfl, rfl, hq, he, q⟩ := h
  cases rx
  obtain ⟨t, rfl⟩ := ry
  obtain ⟨its, r, pl, hz⟩ := I.tuple hq
  obtain ⟨j, h1, h2, h3, h4, h5⟩ := atI_get he
  obtain ⟨w, ew, rw'⟩ := r.get h2
  have hl := r.length
  have hn := line63
  have fin : EP X pins σ Q w s := ⟨z, H, I, rw', q⟩
  exact subscriptTail_builtinR (x := w) pl.typeIs slot_tuple_getitem.lookup
    (getItem_tuple (j := j) (Q := fun r s' => r = w ∧ EP X pins σ Q r s') pl (by omega) (by omega) (by rw [List.size_toArray, ← hl]; exact h1) (by simpa using ew) ⟨rfl, fin⟩) hs
theorem ix_str : IxR X rIxS := by
  intro value slice pins s σ H x y v u Q I rx ry h hs
  obtain ⟨z, i, c, rfl, rfl, hz, he, q⟩ := h
  obtain ⟨t, rfl⟩ := rx
  obtain ⟨t', rfl⟩ := ry
  obtain ⟨j, h1, h2, h3, h4, h5⟩ := atI_get he
  have hl : z.cps.toList.length = z.length := by simp [Str.length]
  rw [hl] at h1 h4 h5
  have hn := line63
  exact tail_any (typeIs_str s z t) slot_str_getitem.lookup (getItem_str (c := c) (by
    have e1 : decide (i < -(2 ^ 63 : Int)) = false := decide_eq_false (by omega)
    have e2 : decide (i ≥ 2 ^ 63) = false := decide_eq_false (by omega)
    rw [e1, e2, Bool.or_false]) (by rw [h1]; simpa using h2) ⟨.str ⟨#[c]⟩, H, I.tok _, ⟨_, rfl⟩, q⟩) hs
/-- list, tuple or str -/
def rIx (K : PySem.W.Frag) : R2 := fun x y H Q => rIxL K x y H Q ∨ rIxT K x y H Q ∨ rIxS x y H Q
theorem ix_seq : IxR X (rIx X.K) := ix_list.or (ix_tup.or ix_str)

/-! ### xs[i] = v, any sign -/
/-- the list's object behind a store -/
theorem mapSeq_set (its : List Value) (n j : Nat) (u : Value) : Obj.mapSeq (·.setIfInBounds j u) { cls := .type "list", data := .seq its.toArray n } = { cls := .type "list", data := .seq (its.set j u).toArray n } := by
  simp [Obj.mapSeq]
theorem Inv.lst {pins : List (Addr × Obj)} {σ : St} {H : Hp} {s : Shared} {p : Addr} {xs : List V} (I : Inv X pins σ H s) (h : H p = some (.lst xs)) :
    ∃ (its : List Value) (n : Nat), Vals xs its ∧ s.heap.get? p = some { cls := .type "list", data := .seq its.toArray n } ∧ xs.length ≤ sizeLine := by
  obtain ⟨z, its, n, r, e⟩ := I.hok p _ h
  exact ⟨its, n, r, e, z⟩
/-- the list at p is written by an update of its object -/
theorem Inv.lstUpd {pins : List (Addr × Obj)} {σ : St} {H : Hp} {s : Shared} {p : Addr} {xs ys : List V} {its its' : List Value} {n n' : Nat} {f : Obj → Obj} (I : Inv X pins σ H s) (h : H p = some (.lst xs))
    (ho : s.heap.get? p = some { cls := .type "list", data := .seq its.toArray n }) (hf : f { cls := .type "list", data := .seq its.toArray n } = { cls := .type "list", data := .seq its'.toArray n' }) (r : Vals ys its') (hz : ys.length ≤ sizeLine) (t : Nat) :
    Inv X pins σ (upd H p (.lst ys)) { s with heap := s.heap.update p f, toks := t } := by
  have e : (s.heap.update p f).get? p = some { cls := .type "list", data := .seq its'.toArray n' } := by
    rw [Heap.get?_update_self f ho (by rw [hf] <;> rfl), hf]
  refine I.write (x := p) (e := p) (by rw [h]; trivial) (.inl rfl) (fun b u hb q => (Heap.get?_update_other _ _ (Ne.symm hb)).trans q) ⟨_, e⟩ ?_
  exact ⟨hz, its', n', r, e⟩
def rSetL : V → V → V → Hp → (Hp → Prop) → Prop := fun o i v H Q => ∃ p xs k j, o = .ref p ∧ i = .int k ∧ H p = some (.lst xs) ∧ ixN xs.length k = some j ∧ Q (upd H p (.lst (xs.set j v)))
theorem set_list : PSet X rSetL := by
  intro pins s σ H o i v ov iv u Q I ro ri rv h
  obtain ⟨p, xs, k, j, rfl, rfl, hp, hj, q⟩ := h
  cases ro
  obtain ⟨t, rfl⟩ := ri
  obtain ⟨its, n, r, ho, hz⟩ := I.lst hp
  obtain ⟨h1, h2, h3, h4⟩ := ixN_seq hj
  have hl := r.length
  have hn := line63
  have I' : Inv X pins σ (upd H p (.lst (xs.set j v))) { s with heap := s.heap.update p (Obj.mapSeq (·.setIfInBounds j u)) } :=
    I.lstUpd hp ho (mapSeq_set its n j u) (r.set rv j) (by rw [List.length_set]; exact hz) s.toks
  by_cases h0 : 0 ≤ k
  · have hk : k.toNat = j := by
      rw [seqIndex_of h0 h4] at h1
      exact Option.some.inj h1
    exact PySem.W.ki_setAt ho h0 (by omega) (by rw [List.size_toArray, ← hl]; exact h4) (by rw [hk]; exact ⟨_, I', q⟩)
  · have hk : (k + (its.toArray.size : Int)).toNat = j := by
      rw [seqIndex_neg (by omega) h3] at h1
      rw [List.size_toArray, ← hl]
      exact Option.some.inj h1
    exact PySem.W.ki_setBack ho (by omega) (by rw [List.size_toArray, ← hl]; exact h3) (by omega) (by rw [hk]; exact ⟨_, I', q⟩)

/-! ### slices -/
theorem slice_bounds (lo hi : Option Int) (n : Nat) : (sliceBounds lo hi none n).1 = ((HT.sIx n 0 lo : Nat) : Int) ∧ (sliceBounds lo hi none n).2.1 = ((HT.sIx n n hi : Nat) : Int) ∧ (sliceBounds lo hi none n).2.2 = 1 := by
  refine ⟨?_, ?_, rfl⟩
  · cases lo with
    | none => simp [sliceBounds, HT.sIx]
    | some i =>
      simp only [sliceBounds, HT.sIx, Option.getD_none, show (1 : Int) > 0 by decide, if_true]
      by_cases h : i < 0
      · simp only [h, if_true] <;> omega
      · simp only [h, if_false] <;> omega
  · cases hi with
    | none => simp [sliceBounds, HT.sIx]
    | some i =>
      simp only [sliceBounds, HT.sIx, Option.getD_none, show (1 : Int) > 0 by decide, if_true]
      by_cases h : i < 0
      · simp only [h, if_true] <;> omega
      · simp only [h, if_false] <;> omega
theorem slicePick_cut (its : List Value) (lo hi : Option Int) : slicePick its.toArray lo hi none = ((its.drop (HT.sIx its.length 0 lo)).take (HT.sIx its.length its.length hi - HT.sIx its.length 0 lo)).toArray := by
  obtain ⟨h1, h2, h3⟩ := slice_bounds lo hi its.toArray.size
  unfold slicePick
  rw [h1, h2, h3]
  simp only [sliceRange_one, pick_run, List.size_toArray] <;> rfl
/-- xs[lo:hi] of a list: a new list -/
def rSlL (K : PySem.W.Frag) : V → Option Int → Option Int → Hp → VK → Prop := fun x lo hi H Q => ∃ a xs, x = .ref a ∧ SqL K H a xs ∧ ∀ p, H p = none → Q (.ref p) (upd H p (.lst (cutV xs lo hi)))
theorem sl_list : SlR X (rSlL X.K) := by
  intro pins s σ H x v vl vu lo hi sl Q I rx hs pl pu h
  obtain ⟨a, xs, rfl, hx, q⟩ := h
  cases rx
  obtain ⟨its, r, ht, hz⟩ := I.list hx
  have hlen := r.length
  refine ⟨"list", _, slot_list_getitem.lookup, ht.isList.typeIs, ?_⟩
  refine wpAny_getItem_list_slice ht.isList hs pl pu .none (by simp) ?_ (by rw [List.size_toArray] <;> omega)
  rw [slicePick_cut, ← hlen]
  refine ⟨.ref s.heap.objs.size, _, I.laid (t' := s.toks) (o := .lst (cutV xs lo hi)) (fun b ob q => Heap.get?_push_of_some _ q) (Nat.le_refl _) ?_, rfl, q _ (I.hok.fresh (Nat.le_refl _))⟩
  exact ⟨Nat.le_trans (cutV_length xs lo hi) hz, _, 0, (r.drop (HT.sIx xs.length 0 lo)).take (HT.sIx xs.length xs.length hi - HT.sIx xs.length 0 lo), Heap.get?_push_size _ rfl⟩

/-! ### in, not in: flat items -/
def flatV : V → Bool
  | .non => true
  | .bl _ => true
  | .int _ => true
  | .str _ => true
  | _ => false
/-- == of flat values -/
def eqV : V → V → Bool
  | .non, .non => true
  | .bl a, .bl b => a == b
  | .bl a, .int b => (if a then 1 else 0) == b
  | .int a, .bl b => a == (if b then 1 else 0)
  | .int a, .int b => a == b
  | .str a, .str b => a == b
  | _, _ => false
theorem eqAt_V {A : Around} {s : Shared} {y x : V} {u v : Value} (ry : RelV y u) (rx : RelV x v) (fy : flatV y = true) (fx : flatV x = true) : SeqAt.EqAt A s u v (eqV y x) := by
  cases y with
  | non =>
    cases ry
    cases x with
    | non => cases rx; exact SeqAt.EqAt.same _
    | bl b => cases rx; exact SeqAt.EqAt.none_bool b
    | int b => obtain ⟨t, rfl⟩ := rx; exact SeqAt.EqAt.none_int b t
    | str b => obtain ⟨t, rfl⟩ := rx; exact SeqAt.EqAt.none_str b t
    | _ => exact absurd (show false = true from fx) Bool.false_ne_true
  | bl a =>
    cases ry
    cases x with
    | non => cases rx; exact SeqAt.EqAt.bool_none a
    | bl b => cases rx; exact SeqAt.EqAt.bool_bool a b
    | int b => obtain ⟨t, rfl⟩ := rx; exact SeqAt.EqAt.bool_int a b t
    | str b => obtain ⟨t, rfl⟩ := rx; exact SeqAt.EqAt.bool_str a b t
    | _ => exact absurd (show false = true from fx) Bool.false_ne_true
  | int a =>
    obtain ⟨t', rfl⟩ := ry
    cases x with
    | non => cases rx; exact SeqAt.EqAt.int_none a t'
    | bl b => cases rx; exact SeqAt.EqAt.int_bool a t' b
    | int b => obtain ⟨t, rfl⟩ := rx; exact SeqAt.EqAt.int_int a t' b t
    | str b => obtain ⟨t, rfl⟩ := rx; exact SeqAt.EqAt.int_str a t' b t
    | _ => exact absurd (show false = true from fx) Bool.false_ne_true
  | str a =>
    obtain ⟨t', rfl⟩ := ry
    cases x with
    | non => cases rx; exact SeqAt.EqAt.str_none a t'
    | bl b => cases rx; exact SeqAt.EqAt.str_bool a t' b
    | int b => obtain ⟨t, rfl⟩ := rx; exact SeqAt.EqAt.str_int a t' b t
    | str b => obtain ⟨t, rfl⟩ := rx; exact SeqAt.EqAt.str_str a t' b t
    | _ => exact absurd (show false = true from fx) Bool.false_ne_true
  | _ => exact absurd (show false = true from fy) Bool.false_ne_true
/-- the items' answers, read off the values (a value's own answer does not lean on its token) -/
def eqU (x : V) (u : Value) : Bool := match u with
  | .none => eqV .non x
  | .bool b => eqV (.bl b) x
  | .int i _ => eqV (.int i) x
  | .str z _ => eqV (.str z) x
  | _ => false
theorem eqU_of {x y : V} {u : Value} (r : RelV y u) (f : flatV y = true) : eqU x u = eqV y x := by
  cases y with
  | non => cases r; rfl
  | bl b => cases r; rfl
  | int i => obtain ⟨t, rfl⟩ := r; rfl
  | str z => obtain ⟨t, rfl⟩ := r; rfl
  | _ => exact absurd (show false = true from f) Bool.false_ne_true
theorem any_eqU {x : V} : ∀ {xs : List V} {us : List Value}, Vals xs us → xs.all flatV = true → us.any (eqU x) = xs.any fun y => eqV y x
  | _, _, .nil, _ => rfl
  | y :: xs, u :: us, .cons r t, f => by
    rw [List.all_cons, Bool.and_eq_true] at f
    rw [List.any_cons, List.any_cons, eqU_of r f.1, any_eqU t f.2]
theorem mem_eqAt {A : Around} {s : Shared} {x : V} {v : Value} (rx : RelV x v) (fx : flatV x = true) : ∀ {xs : List V} {us : List Value}, Vals xs us → xs.all flatV = true → ∀ u ∈ us, SeqAt.EqAt A s u v (eqU x u)
  | _, _, .nil, _ => fun u hu => by cases hu
  | y :: xs, u :: us, .cons r t, f => fun u' hu => by
    rw [List.all_cons, Bool.and_eq_true] at f
    rcases List.mem_cons.mp hu with rfl | hu
    · rw [eqU_of r f.1]; exact eqAt_V r rx f.1 fx
    · exact mem_eqAt rx fx t f.2 u' hu
def inV (x : V) (xs : List V) : Bool := xs.any fun y => eqV y x
/-- x in a list or tuple of flat items -/
def rIn (K : PySem.W.Frag) (neg : Bool) : R2 := fun x y H Q => ∃ p xs, y = .ref p ∧ (SqL K H p xs ∨ SqT K H p xs) ∧ flatV x = true ∧ xs.all flatV = true ∧ Q (.bl (if neg then !inV x xs else inV x xs)) H
theorem op_in_seq : OpR X (compareOp .In) (rIn X.K false) := by
  intro pins s σ H x y v u Q I rx ry h
  obtain ⟨p, xs, rfl, hq, fx, fs, q⟩ := h
  cases ry
  rcases hq with hq | hq
  · obtain ⟨its, r, pl, hz⟩ := I.list hq
    refine SeqAt.in_listAt (eqU x) pl.isList (fun w hw => mem_eqAt rx fx r fs w (by simpa using hw)) ⟨.bl _, H, I, rfl, ?_⟩
    rw [show its.toArray.any (eqU x) = its.any (eqU x) by simp, any_eqU r fs]
    exact q
  · obtain ⟨its, r, pl, hz⟩ := I.tuple hq
    refine SeqAt.in_tupleAt (eqU x) pl (fun w hw => mem_eqAt rx fx r fs w (by simpa using hw)) ⟨.bl _, H, I, rfl, ?_⟩
    rw [show its.toArray.any (eqU x) = its.any (eqU x) by simp, any_eqU r fs]
    exact q
theorem op_notIn_seq : OpR X (compareOp .NotIn) (rIn X.K true) := by
  intro pins s σ H x y v u Q I rx ry h
  obtain ⟨p, xs, rfl, hq, fx, fs, q⟩ := h
  cases ry
  rcases hq with hq | hq
  · obtain ⟨its, r, pl, hz⟩ := I.list hq
    refine SeqAt.notIn_listAt (eqU x) pl.isList (fun w hw => mem_eqAt rx fx r fs w (by simpa using hw)) ⟨.bl _, H, I, rfl, ?_⟩
    rw [show its.toArray.any (eqU x) = its.any (eqU x) by simp, any_eqU r fs]
    exact q
  · obtain ⟨its, r, pl, hz⟩ := I.tuple hq
    refine SeqAt.notIn_tupleAt (eqU x) pl (fun w hw => mem_eqAt rx fx r fs w (by simpa using hw)) ⟨.bl _, H, I, rfl, ?_⟩
    rw [show its.toArray.any (eqU x) = its.any (eqU x) by simp, any_eqU r fs]
    exact q
theorem op_notIn_str : OpR X (compareOp .NotIn) (fun x y H Q => ∃ i j, x = .str i ∧ y = .str j ∧ Q (.bl (!(!(Builtin.Str.occurrences j i 0 j.length 1).isEmpty))) H) := by
  intro pins s σ H x y v u Q I rx ry h
  obtain ⟨i, j, rfl, rfl, q⟩ := h
  obtain ⟨t, rfl⟩ := rx
  obtain ⟨t', rfl⟩ := ry
  exact notIn_str ⟨.bl _, H, I, rfl, q⟩

/-! ### len, list(x), tuple(x) of any list or tuple that is read -/
theorem call_len_seq : CallR X (.builtin "len") (fun xs H Q => ∃ p ys, xs = [.ref p] ∧ (SqL X.K H p ys ∨ SqT X.K H p ys) ∧ Q (.int ys.length) H) := by
  intro pins s σ H xs us Q I r h
  obtain ⟨p, ys, rfl, hq, q⟩ := h
  obtain ⟨u, rfl, rx⟩ := vals1 r
  cases rx
  have hn := line63
  rcases hq with hq | hq
  · obtain ⟨its, r', pl, hz⟩ := I.list hq
    have hlen := r'.length
    exact Calls.call_len_list pl.isList (by simp only [List.size_toArray] <;> omega) ⟨.int ys.length, H, I.tok _, ⟨s.toks + 1, by rw [List.size_toArray, hlen]⟩, q⟩
  · obtain ⟨its, r', pl, hz⟩ := I.tuple hq
    have hlen := r'.length
    exact len_tuple pl (by simp only [List.size_toArray] <;> omega) ⟨.int ys.length, H, I.tok _, ⟨s.toks + 1, by rw [List.size_toArray, hlen]⟩, q⟩
theorem call_len_str : CallR X (.builtin "len") (fun xs H Q => ∃ z, xs = [.str z] ∧ z.length ≤ sizeLine ∧ Q (.int z.length) H) := by
  intro pins s σ H xs us Q I r h
  obtain ⟨z, rfl, hz, q⟩ := h
  obtain ⟨u, rfl, t, rfl⟩ := vals1 r
  have hn := line63
  exact len_str (by omega) ⟨.int z.length, H, I.tok _, ⟨_, rfl⟩, q⟩
theorem CallR.or {f : Value} {r r' : List V → Hp → VK → Prop} (h : CallR X f r) (h' : CallR X f r') : CallR X f (fun xs H Q => r xs H Q ∨ r' xs H Q) := by
  intro pins s σ H xs us Q I rs q
  rcases q with q | q
  · exact h pins s σ H xs us Q I rs q
  · exact h' pins s σ H xs us Q I rs q
theorem call_list_of : CallR X (.type "list") (fun xs H Q => ∃ p ys, xs = [.ref p] ∧ (SqL X.K H p ys ∨ SqT X.K H p ys) ∧ ∀ l, H l = none → Q (.ref l) (upd H l (.lst ys))) := by
  intro pins s σ H xs us Q I r h
  obtain ⟨p, ys, rfl, hq, q⟩ := h
  obtain ⟨u, rfl, rx⟩ := vals1 r
  cases rx
  have fin : ∀ (its : List Value), Vals ys its → ys.length ≤ sizeLine → ∀ (h' : Heap) (c' : Nat), (∀ b o', s.heap.get? b = some o' → h'.get? b = some o') →
      h'.get? s.heap.objs.size = some { cls := .type "list", dict := none, data := .seq its.toArray c', slots := #[] } → EP X pins σ Q (.ref s.heap.objs.size) { s with heap := h' } := fun its r' hz h' c' kp e =>
    ⟨.ref s.heap.objs.size, _, I.laid (t' := s.toks) kp (Nat.le_refl _) (show ObjOk X.prog X.w _ h' _ (.lst ys) from ⟨hz, its, c', r', e⟩), rfl, q _ (I.hok.fresh (Nat.le_refl _))⟩
  rcases hq with hq | hq
  · obtain ⟨its, r', pl, hz⟩ := I.list hq
    have hlen := r'.length
    obtain ⟨o, ho, hc, n, hd⟩ := pl.isList
    exact call_list_seq p (.inl rfl) ho hc hd (fun h' c' kp e => fin its r' hz h' c' kp e) (by simp only [List.size_toArray] <;> omega)
  · obtain ⟨its, r', pl, hz⟩ := I.tuple hq
    have hlen := r'.length
    obtain ⟨o, ho, hc, n, hd⟩ := pl
    exact call_list_seq p (.inr rfl) ho hc hd (fun h' c' kp e => fin its r' hz h' c' kp e) (by simp only [List.size_toArray] <;> omega)
theorem call_tuple_of : CallR X (.type "tuple") (fun xs H Q => ∃ p ys, xs = [.ref p] ∧ ((SqL X.K H p ys ∧ ∀ l, H l = none → Q (.ref l) (upd H l (.tup ys))) ∨ (SqT X.K H p ys ∧ Q (.ref p) H))) := by
  intro pins s σ H xs us Q I r h
  obtain ⟨p, ys, rfl, h⟩ := h
  obtain ⟨u, rfl, rx⟩ := vals1 r
  cases rx
  rcases h with ⟨hq, q⟩ | ⟨hq, q⟩
  · obtain ⟨its, r', pl, hz⟩ := I.list hq
    have hlen := r'.length
    refine call_tuple_list pl.isList (fun h' kp => ?_) (by simp only [List.size_toArray] <;> omega)
    have I1 : Inv X pins σ H { s with heap := h' } := I.kept (t' := s.toks) kp
    have I2 : Inv X pins σ (upd H h'.objs.size (.tup ys)) { s with heap := h'.push { cls := .type "tuple", data := .seq its.toArray } } :=
      I1.laid (t' := s.toks) (fun b o e => Heap.get?_push_of_some _ e) (Nat.le_refl _) (show ObjOk X.prog X.w _ _ _ (.tup ys) from ⟨hz, its, r', IsTup.new _ _⟩)
    exact ⟨.ref h'.objs.size, _, I2, rfl, q _ (I1.hok.fresh (Nat.le_refl _))⟩
  · obtain ⟨its, r', pl, hz⟩ := I.tuple hq
    exact call_tuple_same pl ⟨.ref p, H, I, rfl, q⟩

/-! ### the call of a builtin's method: o.m(..) -/
/-- the value is of that builtin type -/
def tyV (K : PySem.W.Frag) (T : String) (x : V) (H : Hp) : Prop := match x with
  | .str _ => T = "str"
  | .int _ => T = "int"
  | .ref p => (T = "list" ∧ ∃ xs, SqL K H p xs) ∨ (T = "tuple" ∧ ∃ o, K.lookup p = some o ∧ o.cls = .type "tuple" ∧ o.dict = none) ∨
      (T = "dict" ∧ ((∃ kvs, H p = some (.dK kvs)) ∨ ∃ kvs, H p = some (.dT kvs))) ∨ (T = "set" ∧ ∃ S n, H p = some (.set S n))
  | _ => False
theorem tyV_is {pins : List (Addr × Obj)} {σ : St} {H : Hp} {s : Shared} {T : String} {x : V} {v : Value} (I : Inv X pins σ H s) (r : RelV x v) (ty : tyV X.K T x H) :
    s.TypeIs v T ∧ ∀ a, v = .ref a → ∃ ob, s.heap.get? a = some ob ∧ ob.dict = none := by
  cases x with
  | str z =>
    obtain ⟨t, rfl⟩ := r
    cases (show T = "str" from ty)
    exact ⟨typeIs_str s z t, fun _ e => nomatch e⟩
  | int i =>
    obtain ⟨t, rfl⟩ := r
    cases (show T = "int" from ty)
    exact ⟨typeIs_int s i t, fun _ e => nomatch e⟩
  | ref p =>
    cases r
    rcases ty with ⟨rfl, xs, hq⟩ | ⟨rfl, o, hk, hc, hd⟩ | ⟨rfl, hk⟩ | ⟨rfl, S, n, hk⟩
    · obtain ⟨its, _, pl, _⟩ := I.list hq
      refine ⟨pl.isList.typeIs, fun a e => ?_⟩
      cases e
      obtain ⟨o, n, e, c, hd, _⟩ := pl
      exact ⟨o, e, hd⟩
    · refine ⟨⟨o, I.kIn p o hk, hc⟩, fun a e => ?_⟩
      cases e
      exact ⟨o, I.kIn _ o hk, hd⟩
    · have z : ∃ o, s.heap.get? p = some o ∧ o.ExactDict := by
        rcases hk with ⟨kvs, hk⟩ | ⟨kvs, hk⟩
        · obtain ⟨_, _, _, _, o, _, _, e, ex, _⟩ := I.hok p _ hk
          exact ⟨o, e, ex⟩
        · obtain ⟨_, _, _, _, o, _, _, e, ex, _⟩ := I.hok p _ hk
          exact ⟨o, e, ex⟩
      obtain ⟨o, e, ex⟩ := z
      refine ⟨⟨o, e, ex.1⟩, fun a e2 => ?_⟩
      cases e2
      exact ⟨o, e, ex.2.1⟩
    · obtain ⟨o, _, _, _, e, ex, _⟩ := I.hok p _ hk
      refine ⟨⟨o, e, ex.1⟩, fun a e2 => ?_⟩
      cases e2
      exact ⟨o, e, ex.2.1⟩
  | _ => exact False.elim ty
def tBM0 (K : PySem.W.Frag) (T : String) (r : V → List V → Hp → VK → Prop) (to : TE) : TE := fun σ H Q => to σ H fun x H1 => tyV K T x H1 ∧ r x [] H1 Q
def tBM (K : PySem.W.Frag) (T : String) (r : V → List V → Hp → VK → Prop) (to : TE) (t : TA) : TE := fun σ H Q => to σ H fun x H1 => tyV K T x H1 ∧ t σ H1 fun xs H2 => r x xs H2 Q
variable {o e : Expr} {es : List Expr} {to : TE} {t : TA} {name : Str} {apos cpos : Pos} {T id : String} {r : V → List V → Hp → VK → Prop}
theorem pe_bm0 (pa : PlainAttrs T) (slot : Slot T name id) (hty : typeOf (.builtin id) = pure (.type "method_descriptor")) (hm : MtR X id r) (ho : PE X o to)
    (hbase : attributeBase o name X.env (eval o X.env) = eval o X.env := by rfl) (hline : (apos.endLine == cpos.line) = true := by rfl) : PE X (.Call (.Attribute o name apos) [] [] cpos) (tBM0 X.K T r to) := by
  intro pins s σ H Q I h
  refine wpAny_Call_method0_late hbase hline (thn (ho pins s σ H _ I h) fun v s1 ⟨x, H1, I1, r1, ty, q1⟩ => ?_)
  obtain ⟨h1, h2⟩ := tyV_is I1 r1 ty
  exact ⟨T, id, pa, slot, hty, h1, h2, Calls.callWith_builtin rfl (PySem.evalArgs_none (hm pins s1 σ H1 x [] v [] Q I1 r1 .nil q1))⟩
theorem pe_bm (pa : PlainAttrs T) (slot : Slot T name id) (hty : typeOf (.builtin id) = pure (.type "method_descriptor")) (hm : MtR X id r) (ho : PE X o to) (ha : PA X (e :: es) t)
    (hbase : attributeBase o name X.env (eval o X.env) = eval o X.env := by rfl)
    (hfew : ((backTo cpos (starEach (e :: es) X.env)).all (fun x => !x.1) && (backToKw cpos (keywordEach [] X.env)).all (fun x => x.1.isSome)
      && decide ((e :: es).length + ([] : List Keyword).length + (if ([] : List Keyword).isEmpty then 0 else 1) < 30)) = true := by rfl)
    (hline : (apos.endLine == cpos.line) = true := by rfl) (hs : starEach (e :: es) X.env = (false, eval e X.env) :: starEach es X.env := by rfl) (hplain : (backTo cpos (starEach es X.env)).any (·.1) = false := by rfl) :
    PE X (.Call (.Attribute o name apos) (e :: es) [] cpos) (tBM X.K T r to t) := by
  intro pins s σ H Q I h
  refine wpAny_Call_method_late hbase hfew hline rfl (thn (ho pins s σ H _ I h) fun v s1 ⟨x, H1, I1, r1, ty, q1⟩ => ?_)
  obtain ⟨h1, h2⟩ := tyV_is I1 r1 ty
  refine ⟨T, id, pa, slot, hty, h1, h2, ?_⟩
  have hA := ha cpos pins s1 σ H1 _ I1 q1
  rw [hs] at hA ⊢
  refine Calls.callWith_builtin (by show (false || (backTo cpos (starEach es X.env)).any (·.1)) = false; rw [hplain] <;> rfl) (Calls.evalArgs_plain ?_)
  exact thn hA fun us s2 ⟨vs, H2, I2, r2, q2⟩ => hm pins s2 σ H2 x vs v us Q I2 r1 r2 q2
/- xs.append(e), list.index on a module's tuple .. are MtR facts of 06m -/
end
end L2

namespace L2
open PySem PySem.Spec PyProof.Rows

def MtM (X : Cx) (id : String) (r : V → List V → Hp → VK → Prop) : Prop :=
  ∀ (pins : List (Addr × Obj)) (s : Shared) (σ : St) (H : Hp) (x : V) (xs : List V) (v : Value) (us : List Value) (Q : VK), Inv X pins σ H s → RelV x v → Vals xs us → r x xs H Q →
    wpAny (model X.prog X.w) X.A (call (.builtin id) (v :: us)) (EP X pins σ Q) X.xe s

/-! ### lists of values -/
theorem Vals.one : ∀ {x : V} {us : List Value}, Vals [x] us → ∃ u, us = [u] ∧ RelV x u
  | _, _, .cons r .nil => ⟨_, rfl, r⟩
theorem Vals.two : ∀ {x y : V} {us : List Value}, Vals [x, y] us → ∃ u v, us = [u, v] ∧ RelV x u ∧ RelV y v
  | _, _, _, .cons r (.cons q .nil) => ⟨_, _, rfl, r, q⟩
theorem Vals.zero : ∀ {us : List Value}, Vals [] us → us = []
  | _, .nil => rfl
theorem Vals.dropLast {xs : List V} {us : List Value} (h : Vals xs us) : Vals xs.dropLast us.dropLast := by
  induction h with
  | nil => exact .nil
  | cons r t ih =>
    cases t with
    | nil => exact .nil
    | cons q t' => exact .cons r ih
theorem Vals.eraseIdx : ∀ {xs : List V} {us : List Value} (i : Nat), Vals xs us → Vals (xs.eraseIdx i) (us.eraseIdx i)
  | _, _, _, .nil => .nil
  | _, _, 0, .cons _ t => t
  | _, _, i + 1, .cons r t => .cons r (Vals.eraseIdx i t)
theorem Vals.reverse {xs : List V} {us : List Value} (h : Vals xs us) : Vals xs.reverse us.reverse := by
  induction h with
  | nil => exact .nil
  | cons r t ih => rw [List.reverse_cons, List.reverse_cons]; exact Vals.append ih (.cons r .nil)
theorem Vals.rep {xs : List V} {us : List Value} (h : Vals xs us) : ∀ k : Nat, Vals (List.replicate k xs).flatten (List.replicate k us).flatten
  | 0 => .nil
  | k + 1 => by
    rw [List.replicate_succ, List.replicate_succ, List.flatten_cons, List.flatten_cons]
    exact Vals.append h (Vals.rep h k)
theorem erase_last {α : Type} (l : List α) : l.eraseIdx (l.length - 1) = l.dropLast := by
  induction l with
  | nil => rfl
  | cons a r ih =>
    cases r with
    | nil => rfl
    | cons b r =>
      have e : (a :: b :: r).length - 1 = ((b :: r).length - 1) + 1 := by
        have h1 : (a :: b :: r).length = r.length + 2 := rfl
        have h2 : (b :: r).length = r.length + 1 := rfl
        omega
      rw [e, List.eraseIdx_cons_succ, ih]
      all_goals rfl
theorem len_erase {α : Type} : ∀ (l : List α) (i : Nat), (l.eraseIdx i).length ≤ l.length
  | [], _ => Nat.le_refl _
  | _ :: _, 0 => Nat.le_succ _
  | _ :: r, i + 1 => Nat.succ_le_succ (len_erase r i)
theorem foldl_rep (its : List Value) : ∀ (k : Nat) (acc : List Value),
    List.foldl (fun x1 x2 => x1 ++ x2) acc.toArray (List.replicate k its.toArray) = (acc ++ (List.replicate k its).flatten).toArray
  | 0, acc => by simp
  | k + 1, acc => by
    have e : acc.toArray ++ its.toArray = (acc ++ its).toArray := by simp
    have e2 : (acc ++ its) ++ (List.replicate k its).flatten = acc ++ (List.replicate (k + 1) its).flatten := by
      rw [List.replicate_succ, List.flatten_cons, List.append_assoc]
    rw [← e2, ← foldl_rep its k (acc ++ its), ← e, List.replicate_succ, List.foldl_cons]

section
variable {X : Cx} {pins : List (Addr × Obj)} {σ : St} {H : Hp} {s : Shared} {l b : Addr} {xs ys zs : List V}

/-! ### the two steps: a tracked list is rewritten, a new list is laid -/
theorem Inv.lset {its its' : List Value} {n : Nat} {f : Array Value → Array Value} {t' : Nat} (I : Inv X pins σ H s) (hH : H l = some (.lst xs))
    (e : s.heap.get? l = some { cls := .type "list", data := .seq its.toArray n }) (hf : f its.toArray = its'.toArray) (hv : Vals ys its') (hz : ys.length ≤ sizeLine) :
    Inv X pins σ (upd H l (.lst ys)) { s with heap := s.heap.update l (Obj.mapSeq f), toks := t' } := by
  have q := PySem.IsL.update e f
  rw [hf] at q
  refine I.write (x := l) (e := l) (by rw [hH]; exact trivial) (.inl rfl) (fun b' u hb hu => (Heap.get?_update_other s.heap (Obj.mapSeq f) (Ne.symm hb)).trans hu) ⟨_, q⟩ ?_
  exact ⟨hz, its', _, hv, q⟩
theorem Inv.lnew {its : List Value} {t' : Nat} (I : Inv X pins σ H s) (hv : Vals ys its) (hz : ys.length ≤ sizeLine) :
    Inv X pins σ (upd H s.heap.objs.size (.lst ys)) { s with heap := s.heap.push { cls := .type "list", data := .seq its.toArray }, toks := t' } :=
  I.laid (fun _ _ q => Heap.get?_push_of_some _ q) (Nat.le_refl _) ⟨hz, its, 0, hv, Heap.get?_push_size _ rfl⟩
theorem Inv.fresh (I : Inv X pins σ H s) : H s.heap.objs.size = none := I.hok.fresh (Nat.le_refl _)
theorem Inv.lstM (I : Inv X pins σ H s) (hH : H l = some (.lst xs)) : xs.length ≤ sizeLine ∧ ∃ (its : List Value) (n : Nat), Vals xs its ∧ xs.length = its.length ∧ s.heap.get? l = some { cls := .type "list", data := .seq its.toArray n } := by
  obtain ⟨z, its, n, r, e⟩ := I.hok l _ hH
  exact ⟨z, its, n, r, r.length, e⟩

theorem notLongL {n : Nat} (h : n ≤ sizeLine) : Builtin.List.listTooLong n = false := by
  unfold Builtin.List.listTooLong
  exact decide_eq_false (by omega)
end

section
variable {X : Cx}

/-! ### methods -/
def rAppend : V → List V → Hp → VK → Prop := fun x vs H Q => ∃ l xs y, x = .ref l ∧ vs = [y] ∧ H l = some (.lst xs) ∧ xs.length < sizeLine ∧ Q .non (upd H l (.lst (xs ++ [y])))
theorem mt_append : MtM X "list.append" rAppend := by
  intro pins s σ H x vs v us Q I rx rv h
  obtain ⟨l, xs, y, rfl, rfl, hH, hz, q⟩ := h
  cases rx
  obtain ⟨u, rfl, ru⟩ := rv.one
  obtain ⟨z, its, n, r, hl, e⟩ := I.lstM hH
  refine call_meets F.slot_list_append ⟨_, e, rfl⟩ F.entry_list_append (F.args_list_append_2 _ _) (PySem.list_append l its.toArray n u (by rw [List.size_toArray]; omega)) ⟨e, ?_⟩
  refine ⟨.non, _, I.lset (its' := its ++ [u]) hH e (by simp) (r.append (.cons ru .nil)) ?_, rfl, q⟩
  rw [List.length_append, List.length_singleton]
  omega

inductive ExtendR (x : V) (vs : List V) (H : Hp) (Q : VK) : Prop
  | mk (l b : Addr) (xs zs : List V) (e : x = .ref l) (e' : vs = [.ref b]) (h : H l = some (.lst xs)) (h' : H b = some (.lst zs)) (hz : xs.length + zs.length ≤ sizeLine) (q : Q .non (upd H l (.lst (xs ++ zs)))) : ExtendR x vs H Q
def rExtend : V → List V → Hp → VK → Prop := fun x vs H Q => ExtendR x vs H Q
theorem mt_extend : MtM X "list.extend" rExtend := by
  intro pins s σ H x vs v us Q I rx rv h
  obtain ⟨l, b, xs, zs, rfl, rfl, hH, hB, hz, q⟩ := h
  cases rx
  obtain ⟨u, rfl, ru⟩ := rv.one
  cases ru
  obtain ⟨z, its, n, r, hl, e⟩ := I.lstM hH
  obtain ⟨z2, its2, n2, r2, hl2, e2⟩ := I.lstM hB
  have hsz : its.toArray.size + its2.toArray.size ≤ sizeLine := by rw [List.size_toArray, List.size_toArray]; omega
  have hlong : ¬ (!its.toArray.isEmpty && Builtin.List.listTooLong (its.toArray.size + its2.toArray.size)) = true := by
    rw [notLongL hsz, Bool.and_false]
    exact Bool.false_ne_true
  refine call_meets F.slot_list_extend ⟨_, e, rfl⟩ F.entry_list_extend (F.args_list_extend_2 _ _)
    (AutoSeq1.list_extend_list_list_0 l its.toArray n b its2.toArray n2 hlong (by rw [List.size_toArray]; omega) (by omega)) ⟨e, e2, ?_⟩
  refine ⟨.non, _, I.lset (its' := its ++ its2) hH e (by simp) (r.append r2) ?_, rfl, q⟩
  rw [List.length_append]
  omega

inductive PopR (x : V) (vs : List V) (H : Hp) (Q : VK) : Prop
  | mk (l : Addr) (xs : List V) (y : V) (e : x = .ref l) (e' : vs = []) (h : H l = some (.lst xs)) (hy : xs[xs.length - 1]? = some y) (q : Q y (upd H l (.lst xs.dropLast))) : PopR x vs H Q
def rPop : V → List V → Hp → VK → Prop := fun x vs H Q => PopR x vs H Q
theorem mt_pop : MtM X "list.pop" rPop := by
  intro pins s σ H x vs v us Q I rx rv h
  obtain ⟨l, xs, y, rfl, rfl, hH, hy, q⟩ := h
  cases rx
  have hus := rv.zero
  subst hus
  obtain ⟨z, its, n, r, hl, e⟩ := I.lstM hH
  obtain ⟨u, hu, ru⟩ := r.get hy
  have hy' : its.toArray[its.toArray.size - 1]? = some u := by
    show its.toArray[its.length - 1]? = some u
    rw [← Array.getElem?_toList, ← hl]
    exact hu
  refine call_meets F.slot_list_pop ⟨_, e, rfl⟩ F.entry_list_pop (F.args_list_pop_1 _) (MeetsSeq.list_pop_last l its.toArray n u hy' (by rw [List.size_toArray]; omega)) ⟨e, ?_⟩
  refine ⟨y, _, I.lset (its' := its.dropLast) hH e ?_ r.dropLast ?_, ru, q⟩
  · show its.toArray.eraseIdxIfInBounds (its.toArray.size - 1) = its.dropLast.toArray
    rw [List.size_toArray, List.eraseIdxIfInBounds_toArray, erase_last]
  · rw [List.length_dropLast]
    omega

def rPopAt : V → List V → Hp → VK → Prop := fun x vs H Q => ∃ l xs i k y, x = .ref l ∧ vs = [.int i] ∧ H l = some (.lst xs) ∧ -(2 ^ 63) ≤ i ∧ i < 2 ^ 63 ∧ seqIndex? i xs.length = some k ∧ xs[k]? = some y ∧ Q y (upd H l (.lst (xs.eraseIdx k)))
theorem mt_popAt : MtM X "list.pop" rPopAt := by
  intro pins s σ H x vs v us Q I rx rv h
  obtain ⟨l, xs, i, k, y, rfl, rfl, hH, h1, h2, hk, hy, q⟩ := h
  cases rx
  obtain ⟨u, rfl, ru⟩ := rv.one
  obtain ⟨t, rfl⟩ := ru
  obtain ⟨z, its, n, r, hl, e⟩ := I.lstM hH
  obtain ⟨w, hw, rw'⟩ := r.get hy
  refine call_meets F.slot_list_pop ⟨_, e, rfl⟩ F.entry_list_pop (F.args_list_pop_2 _ _)
    (MeetsSeq.list_pop_at l its.toArray n i t k w (fitsIndex_both h1 h2) (by rw [List.size_toArray, ← hl]; exact hk) (by rw [← Array.getElem?_toList]; exact hw) (by rw [List.size_toArray]; omega)) ⟨e, ?_⟩
  refine ⟨y, _, I.lset (its' := its.eraseIdx k) hH e ?_ (r.eraseIdx k) ?_, rw', q⟩
  · show its.toArray.eraseIdxIfInBounds k = (its.eraseIdx k).toArray
    rw [List.eraseIdxIfInBounds_toArray]
  · have := len_erase xs k
    omega

def rReverse : V → List V → Hp → VK → Prop := fun x vs H Q => ∃ l xs, x = .ref l ∧ vs = [] ∧ H l = some (.lst xs) ∧ Q .non (upd H l (.lst xs.reverse))
theorem mt_reverse : MtM X "list.reverse" rReverse := by
  intro pins s σ H x vs v us Q I rx rv h
  obtain ⟨l, xs, rfl, rfl, hH, q⟩ := h
  cases rx
  have hus := rv.zero
  subst hus
  obtain ⟨z, its, n, r, hl, e⟩ := I.lstM hH
  refine call_meets F.slot_list_reverse ⟨_, e, rfl⟩ F.entry_list_reverse (F.args_list_reverse_1 _) (AutoSeq1.list_reverse_list_0 l its.toArray n (by rw [List.size_toArray]; omega)) ⟨e, ?_⟩
  refine ⟨.non, _, I.lset (its' := its.reverse) hH e (by simp) r.reverse ?_, rfl, q⟩
  rw [List.length_reverse]
  omega

def rClear : V → List V → Hp → VK → Prop := fun x vs H Q => ∃ l xs, x = .ref l ∧ vs = [] ∧ H l = some (.lst xs) ∧ Q .non (upd H l (.lst []))
theorem mt_clear : MtM X "list.clear" rClear := by
  intro pins s σ H x vs v us Q I rx rv h
  obtain ⟨l, xs, rfl, rfl, hH, q⟩ := h
  cases rx
  have hus := rv.zero
  subst hus
  obtain ⟨z, its, n, r, hl, e⟩ := I.lstM hH
  refine call_meets F.slot_list_clear ⟨_, e, rfl⟩ F.entry_list_clear (F.args_list_clear_1 _) (AutoSeq1.list_clear_list_0 l its.toArray n (by rw [List.size_toArray]; omega)) ⟨e, ?_⟩
  exact ⟨.non, _, I.lset (its' := []) (ys := []) hH e rfl .nil (Nat.zero_le _), rfl, q⟩

/-! ### list + list, list += list, list * int -/
def rCat : R2 := fun x y H Q => ∃ l b xs zs, x = .ref l ∧ y = .ref b ∧ H l = some (.lst xs) ∧ H b = some (.lst zs) ∧ xs.length + zs.length ≤ sizeLine ∧ ∀ p, H p = none → Q (.ref p) (upd H p (.lst (xs ++ zs)))
theorem op_cat : OpR X (binaryOp .Add) rCat := by
  intro pins s σ H x y v u Q I rx ry h
  obtain ⟨l, b, xs, zs, rfl, rfl, hH, hB, hz, q⟩ := h
  cases rx
  cases ry
  obtain ⟨z, its, n, r, hl, e⟩ := I.lstM hH
  obtain ⟨z2, its2, n2, r2, hl2, e2⟩ := I.lstM hB
  refine PySem.P.add_list e e2 ?_ (by rw [List.size_toArray, List.size_toArray]; omega)
  have ea : its.toArray ++ its2.toArray = (its ++ its2).toArray := by simp
  rw [ea]
  exact ⟨.ref _, _, I.lnew (t' := s.toks) (r.append r2) (by rw [List.length_append]; omega), rfl, q _ I.fresh⟩
/-- a list times an int (a negative one is nothing) -/
def rRep : R2 := fun x y H Q => ∃ l k xs, x = .ref l ∧ y = .int k ∧ H l = some (.lst xs) ∧ -(2 ^ 63) ≤ k ∧ k < 2 ^ 63 ∧ xs.length * k.toNat ≤ sizeLine ∧
  ∀ p, H p = none → Q (.ref p) (upd H p (.lst (List.replicate k.toNat xs).flatten))
theorem len_rep {α : Type} (xs : List α) (k : Nat) : (List.replicate k xs).flatten.length = k * xs.length := by
  induction k with
  | zero => simp
  | succ k ih => rw [List.replicate_succ, List.flatten_cons, List.length_append, ih, Nat.succ_mul, Nat.add_comm]
theorem op_rep : OpR X (binaryOp .Mult) rRep := by
  intro pins s σ H x y v u Q I rx ry h
  obtain ⟨l, k, xs, rfl, rfl, hH, h1, h2, hz, q⟩ := h
  cases rx
  obtain ⟨t, rfl⟩ := ry
  obtain ⟨z, its, n, r, hl, e⟩ := I.lstM hH
  have hlen : its.toArray.size * k.toNat ≤ sizeLine := by rw [List.size_toArray, ← hl]; exact hz
  have hcap : ¬ its.toArray.size * k.toNat > (2 ^ 63 - 1) / 8 := by
    have : (sizeLine : Nat) ≤ (2 ^ 63 - 1) / 8 := by decide
    omega
  have hfit : ¬ (!Builtin.List.listFitsIndex k) = true := by
    rw [fitsIndex_both h1 h2]
    exact Bool.false_ne_true
  have hlong : ¬ Builtin.List.listTooLong (its.toArray.size * k.toNat) = true := by
    rw [notLongL hlen]
    exact Bool.false_ne_true
  have hnew : List.foldl (fun x1 x2 => x1 ++ x2) #[] (List.replicate (if its.toArray.isEmpty = true then 0 else k.toNat) its.toArray) = (List.replicate k.toNat its).flatten.toArray := by
    have f0 : ∀ m : Nat, List.foldl (fun x1 x2 => x1 ++ x2) #[] (List.replicate m its.toArray) = (List.replicate m its).flatten.toArray := fun m => by
      have := foldl_rep its m []
      rw [List.nil_append] at this
      exact this
    rw [f0]
    cases its with
    | nil => simp
    | cons a r' => rw [if_neg (by simp)]
  refine wpAny_binaryOp_repeat_ref (T := "list") (U := "int") (by decide) ⟨_, e, rfl⟩ (fun s' => typeIs_int s' k t) noFill_list_mul F.fills_int_mul F.slot_int_rmul repeat_list F.slot_int_index.lookup
    (call_meets F.slot_int_rmul (typeIs_int s k t) F.entry_int_rmul (F.args_int_rmul_2 _ _) (int___rmul___int_list k t l its.toArray n)
      ⟨e, rfl, ⟨_, e, rfl⟩, call_meets F.slot_list_mul ⟨_, e, rfl⟩ F.entry_list_mul (F.args_list_mul_2 _ _) (AutoListH.list___mul___list_int_3 l its.toArray n k t hfit hcap hlong) ⟨e, ?_⟩⟩)
  rw [hnew]
  exact ⟨.ref _, _, I.lnew (t' := s.toks) (r.rep k.toNat) (by rw [len_rep, Nat.mul_comm]; exact hz), rfl, q _ I.fresh⟩

/-! ### del xs[i] -/
theorem del_list {pins : List (Addr × Obj)} {s : Shared} {σ : St} {H : Hp} {l : Addr} {xs : List V} {i : Int} {t : Tok} {k : Nat} {Q : Unit → Shared → Prop} (I : Inv X pins σ H s) (hH : H l = some (.lst xs))
    (h1 : -(2 ^ 63) ≤ i) (h2 : i < 2 ^ 63) (hk : seqIndex? i xs.length = some k) (h : ∀ s', Inv X pins σ (upd H l (.lst (xs.eraseIdx k))) s' → Q () s') :
    wpAny (model X.prog X.w) X.A (delItem (.ref l) (.int i t)) Q X.xe s := by
  obtain ⟨z, its, n, r, hl, e⟩ := I.lstM hH
  refine PySem.P.delItem_list (k := k) e (fitsIndex_both h1 h2) (by rw [List.size_toArray, ← hl]; exact hk) (h _ ?_) (by rw [List.size_toArray]; omega)
  refine I.lset (its' := its.eraseIdx k) (t' := s.toks) hH e ?_ (r.eraseIdx k) ?_
  · show its.toArray.eraseIdxIfInBounds k = (its.eraseIdx k).toArray
    rw [List.eraseIdxIfInBounds_toArray]
  · have := len_erase xs k
    omega
end

/-! ### xs[a:b] = ys -/
section
variable {prog : Program} {w : World} {A : Around} {E : Value → Shared → Prop} {s : Shared}
theorem splice_eq (its its2 : List Value) (a c : Nat) : its.toArray.extract 0 a ++ its2.toArray ++ its.toArray.extract c its.toArray.size = (its.take a ++ its2 ++ its.drop c).toArray := by
  apply Array.toList_inj.mp
  first
    | (simp
       exact List.take_of_length_le (by simp))
    | simp [List.take_of_length_le]
    | simp
theorem bounds_run {a c n : Nat} (hac : a ≤ c) (hc : c ≤ n) : sliceBounds (some (a : Int)) (some (c : Int)) none n = ((a : Int), (c : Int), 1) := by
  simp only [sliceBounds, Option.getD_none]
  have h1 : ¬ ((a : Int) < 0) := by omega
  have h2 : ¬ ((c : Int) < 0) := by omega
  simp only [h1, h2, if_false, show (1 : Int) > 0 by decide, if_true]
  congr 1
  · omega
  · congr 1; omega
set_option maxRecDepth 100000 in
/-- list.__setitem__ with a slice of step one and another list -/
theorem setItem_slice {l b sl : Addr} {items new : Array Value} {n n2 : Nat} {vl vu : Value} {a c : Nat} {Q : Unit → Shared → Prop}
    (e : s.heap.get? l = some { cls := .type "list", data := .seq items n }) (e2 : s.heap.get? b = some { cls := .type "list", data := .seq new n2 }) (hne : l ≠ b)
    (hs : s.heap.IsSliceOf sl vl vu .none) (pl : IsPart vl (some (a : Int))) (pu : IsPart vu (some (c : Int))) (hac : a ≤ c) (hc : c ≤ items.size)
    (hsz : items.size + new.size ≤ sizeLine) (h : Q () { s with heap := s.heap.update l (Obj.mapSeq fun xs => xs.extract 0 a ++ new ++ xs.extract c xs.size) }) :
    wpAny (model prog w) A (setItem (.ref l) (.ref sl) (.ref b)) Q E s := by
  have hl : s.heap.IsList l items := PySem.IsL.isList e
  have hb : s.heap.IsList b new := PySem.IsL.isList e2
  obtain ⟨os, hos, hcs, hds⟩ := id hs
  have hTs : s.TypeIs (.ref sl) "slice" := ⟨os, hos, hcs⟩
  have hstep : ¬ ((rawPart none == rawInt 0) = true) := Bool.false_ne_true
  have hsame : Builtin.List.listSameRef (.ref l) (.ref b) = false := by
    unfold Builtin.List.listSameRef
    exact beq_eq_false_iff_ne.mpr hne
  have hmax : (max (a : Int) (c : Int)).toNat = c := by omega
  have hz' : ((fun xs : Array Value => xs.extract 0 a ++ new ++ xs.extract c xs.size) items).size ≤ sizeLine + 1 := by
    simp only [Array.size_append, Array.size_extract]
    omega
  unfold setItem
  try with_reducible refine wpAny_holding ?_
  first | refine wpAny_bind (wpAny_pure ?_) | skip
  refine wpAny_bind (wpAny_sequenceKey hl.typeIs (by decide) ?_)
  refine wpAny_bind (wpAny_callSpecial?_slot (name := Str.ofString "__setitem__") hl.typeIs slot_list_setitem
    (wpAny_call_entry slot_list_setitem hl.typeIs entry_list_setitem ?_ (args_list_setitem _ _ _)))
  show wpAny _ _ (Builtin.List.listSubscript? (.ref sl) >>= _) _ _ s
  refine wpAny_bind ?_
  unfold Builtin.List.listSubscript?
  refine wpAny_bind (wpAny_specialOf hTs slice_no_index ?_)
  simp only [Option.isNone_none, if_true]
  refine wpAny_pure ?_
  show wpAny _ _ (typeOf (.ref sl) >>= _) _ _ s
  refine wpAny_bind (wpAny_typeOf hTs ?_)
  first
    | rw [if_neg (by decide)]
    | refine PySem.W.KFB.if_not (by decide) ?_
  rw [listSliceParts_eq]
  refine wpAny_bind (wpAny_bind (wpAny_field hos hds (x := .none) rfl (wpAny_bind (wpAny_listPart .none ?_))))
  rw [if_neg hstep]
  refine wpAny_bind (wpAny_field hos hds (x := vl) rfl (wpAny_bind (wpAny_listPart pl ?_)))
  refine wpAny_bind (wpAny_field hos hds (x := vu) rfl (wpAny_bind (wpAny_listPart pu (wpAny_pure ?_))))
  first
    | simp only [hsame, Bool.false_eq_true, if_false]
    | refine PySem.W.KFB.if_not hsame ?_
    | (dsimp only
       rw [if_neg (by rw [hsame]; exact Bool.false_ne_true)])
  refine wpAny_bind (m := Builtin.List.listAllItems (.ref b) "must assign iterable to extended slice") ?_
  unfold Builtin.List.listAllItems
  refine wpAny_bind (wpAny_typeOf hb.typeIs ?_)
  first
    | refine PySem.W.KFB.if_so (by decide) ?_
    | rw [if_pos (by decide)]
    | simp only [beq_self_eq_true, Bool.true_or, if_true]
  unfold Builtin.List.listItems
  refine wpAny_bind (wpAny_seqItems e2 rfl (wpAny_pure ?_))
  refine wpAny_bind (wpAny_bind (wpAny_seqItems e rfl (wpAny_pure ?_)))
  refine wpAny_bind (wpAny_of_eq ((sliceIndices_raw (some (a : Int)) (some (c : Int)) none items.size (by simp)).trans (congrArg (pure : Int × Int × Int → Sem (Int × Int × Int)) (bounds_run hac hc))) ?_)
  show wpAny _ _ (if ((1 : Int) == 1) = true then _ else _) _ _ s
  rw [if_pos (by decide)]
  refine wpAny_bind (wpAny_rule ?_)
  first
    | simp only [notLongL hsz, Bool.false_eq_true, if_false]
    | refine PySem.W.KFB.if_not (notLongL hsz) ?_
  first | refine wpAny_bind (wpAny_pure ?_) | skip
  show wpAny _ _ (updateSeq l (fun xs => xs.extract 0 ((a : Int)).toNat ++ new ++ xs.extract (max (a : Int) (c : Int)).toNat xs.size) >>= _) _ _ s
  rw [hmax, Int.toNat_natCast]
  refine wpAny_bind (wpAny_updateSeq (hz := Nat.le_trans (Nat.le_add_right _ _) hsz) (_hz' := hz') e rfl ?_)
  refine wpAny_bind (wpAny_letGo ?_)
  first
    | exact wpAny_bind (wpAny_pure (wpAny_pure ⟨.none, rfl, wpAny_pure h⟩))
    | exact wpAny_pure ⟨.none, rfl, wpAny_pure h⟩
end

section
variable {X : Cx}
/-- xs[a:c] = ys of another list, at the value level: sl is the slice object that was just made -/
theorem set_slice {pins : List (Addr × Obj)} {s : Shared} {σ : St} {H : Hp} {l b sl : Addr} {xs ys : List V} {a c : Int} {vl vu : Value} {Q : Unit → Shared → Prop} (I : Inv X pins σ H s)
    (hH : H l = some (.lst xs)) (hB : H b = some (.lst ys)) (hne : l ≠ b) (hs : s.heap.IsSliceOf sl vl vu .none) (ra : RelV (.int a) vl) (rc : RelV (.int c) vu) (h0 : 0 ≤ a) (hac : a ≤ c) (hc : c ≤ xs.length)
    (hz : xs.length + ys.length ≤ sizeLine) (h : ∀ s', Inv X pins σ (upd H l (.lst (xs.take a.toNat ++ ys ++ xs.drop c.toNat))) s' → Q () s') :
    wpAny (model X.prog X.w) X.A (setItem (.ref l) (.ref sl) (.ref b)) Q X.xe s := by
  obtain ⟨ta, rfl⟩ := ra
  obtain ⟨tc, rfl⟩ := rc
  obtain ⟨z, its, n, r, hl, e⟩ := I.lstM hH
  obtain ⟨z2, its2, n2, r2, hl2, e2⟩ := I.lstM hB
  obtain ⟨a', rfl⟩ := Int.eq_ofNat_of_zero_le h0
  obtain ⟨c', rfl⟩ := Int.eq_ofNat_of_zero_le (Int.le_trans h0 hac)
  simp only [Int.toNat_natCast] at h
  refine setItem_slice (a := a') (c := c') e e2 hne hs (.int _ _) (.int _ _) (by omega) (by rw [List.size_toArray]; omega) (by rw [List.size_toArray, List.size_toArray]; omega) (h _ ?_)
  refine I.lset (its' := its.take a' ++ its2 ++ its.drop c') (t' := s.toks) hH e ?_ (Vals.append (Vals.append (r.take _) r2) (r.drop _)) ?_
  · exact splice_eq its its2 a' c'
  · rw [List.length_append, List.length_append, List.length_take, List.length_drop]
    omega
end
end L2

namespace Att
open PySem PySem.W PySem.Calls PyProof.Rows

/-! ### the script -/
theorem ints_of_wellAll {P : Params} {h : Heap} : ∀ (ns : List Int) (vs : List Value), WellAll P h vs (ns.map WData.int) → IntsAre vs ns := by
  intro ns
  induction ns with
  | nil =>
    intro vs w
    rw [List.map_nil] at w
    cases w
    exact .nil
  | cons n ns ih =>
    intro vs w
    rw [List.map_cons] at w
    cases w with
    | cons a b =>
      cases a
      exact .cons _ _ (ih _ b)

theorem script_of {l : OpenLaw} {n : Nat} (hn : l.most = some n) {P : Params} {h : Heap} {args : List WData} {vals : List Value}
    (hpre : l.row.toRowW.claim.pre args = true) (hwl : WellAll P h vals args) :
    ∃ a vs ns, vals = [Value.ref a] ∧ args = [WData.list (ns.map WData.int)] ∧ h.get? a = some { cls := .type "list", data := .seq vs.toArray } ∧ IntsAre vs ns ∧ ns.length ≤ n := by
  have hsh : WShape.hasAll [] args [.list .int] = true := (pre_splitW hpre).1
  have hc : l.pre.holds [] { args := args } = true := (pre_splitW hpre).2
  obtain ⟨d, r, rfl, h1, h2⟩ := hasAllW_cons hsh
  obtain rfl := hasAllW_nil h2
  obtain ⟨xs, rfl, h3⟩ := hasW_list h1
  obtain ⟨ns, rfl⟩ := items_int h3
  have hlen : ns.length ≤ n := by
    unfold OpenLaw.pre at hc
    have h4 : (WTm.not (.lt (.lit (.int (n : Int))) (.len (.arg 0)))).holds [] { args := [.list (ns.map .int)] } = true := by
      have h4 := (holds_andW hc).1
      rw [hn] at h4
      exact h4
    have h5 := condW_of h4 (w_not (w_lt w_lit (w_len_list (w_arg rfl))))
    rw [List.length_map] at h5
    refine Nat.le_of_not_lt fun q => ?_
    have q' : (n : Int) < ((ns.length : Nat) : Int) := by omega
    first
      | (rw [decide_eq_true q'] at h5; exact absurd h5 (by decide))
      | (simp at h5; omega)
  cases hwl with
  | cons w1 w2 =>
    cases w2
    cases w1 with
    | list ho hall => exact ⟨_, _, ns, rfl, rfl, ho, ints_of_wellAll ns _ hall, hlen⟩

theorem post_true (l : OpenLaw) (args : List WData) : l.row.toRowW.claim.post args (.bool true) args = true :=
  postW_of (r := l.row.toRowW) (X := (true == true))
    (show WShape.has [] (.bool true) .bool = true by first | rfl | decide | simp [WShape.has, WShape.arms, WShape.armsAll])
    (show (WTm.eq .res (.lit (.bool true))).value [] { args := args, res := some (.bool true), after := args } = some (.bool (true == true)) from w_eq_bool (w_res rfl) w_lit) rfl

/-! ### the attachment: holds_open's last premise (the goal 'hc' behind k_head) from a wpAny of the law's body -/
theorem attach {l : OpenLaw} {n : Nat} {q : Program} {loose : List Str} {XP : (Str → Option Value) → Heap → Prop} {YP : World → Heap → Prop} {d : DefRec} {x : Str}
    (hn : l.most = some n) (hdf : d.params.defaults = [])
    (hbind : ∀ pm cd doc v : Value, bindArgs (docDef d.name d.params d.body d.scope pm cd doc) ⟨[v], []⟩ = pure [(x, v)])
    (hx : d.scope.names.lookup x = some .local ∨ d.scope.names.lookup x = some .cell)
    (hk : d.scope.kind = .function) (hco : d.scope.isCoroutine = false) (hgen : d.scope.isGenerator = false)
    (body : ∀ (w : World) (s₀ s₁ s : Shared) (mg mb : Str → Option Value) (fa : Addr) (o : Obj) (pm cd doc : Value) (a : Addr) (vs : List Value) (ns : List Int),
      Ground q loose [] XP w s₀ mg mb s₁.heap → YP w s₁.heap →
      s₁.heap.get? fa = some o → o.data = .func (docDef d.name d.params d.body d.scope pm cd doc) → s₁.heap.CodeRec cd d.name → mg d.name = some (.ref fa) →
      s₁.heap.get? a = some { cls := .type "list", data := .seq vs.toArray } → IntsAre vs ns → ns.length ≤ n →
      s.gens = #[] → s.os = s₁.os →
      Fr s₁.heap s₁.heap.objs.size s.heap (bindL (envOfC d.name d.scope s₁.heap.objs.size fa cd).kindOf [(x, .ref a)] fun _ => none) →
      Cl s₁.heap.objs.size (cellsFrom (s₁.heap.objs.size + 1) d.scope.names []) s.heap (bindC (envOfC d.name d.scope s₁.heap.objs.size fa cd).kindOf [(x, .ref a)] fun _ => none) →
      wpAny (model l.prog w) (callerA.deeper (envOfC d.name d.scope s₁.heap.objs.size fa cd)) (execs d.body (envOfC d.name d.scope s₁.heap.objs.size fa cd))
        (fun f s' => f = .ret (.bool true) ∧ OldK s₁.heap s'.heap ∧ s'.os = s₁.os ∧ AllBare s'.gens) (fun _ _ => False) s) :
    WalkO q loose XP YP l.row.toRowW d [] (fun f vs => PySem.call f vs) := by
  intro w s₀ s₁ mg mb G Y fa o pm cd doc dV kV ho hd hcd hD hmg hg args vals as hpre hlay hrd hwl hlo
  obtain rfl : dV = .none := Dflts.none hD hdf
  obtain rfl : kV = .none := Dflts.noKw hD
  obtain ⟨a, vs, ns, rfl, rfl, hobj, hints, hlen⟩ := script_of hn hpre hwl
  refine enter_call ?_
  refine call_cells_ret (o := o) (by rw [depth_caller]; decide) ho (fd_plain hd) G.T.nolimit hcd (hbind pm cd doc (.ref a)) (fun y hy => ?_) (fun h₁ tk F X => ?_) hco hgen hk
  · obtain rfl : y = (x, Value.ref a) := List.mem_singleton.mp hy
    rcases hx with e | e
    · exact .inl e
    · exact .inr ⟨e, cellsFrom_some _ _ _ (.inl e)⟩
  · refine wpAny_mono (body w s₀ s₁ { s₁ with heap := h₁, toks := tk } mg mb fa o pm cd doc a vs ns G Y ho (fd_plain hd) hcd hmg hobj hints hlen hg rfl F X) (fun f s' hq => ?_) (fun _ _ hq => hq)
    obtain ⟨rfl, h2, h3, h4⟩ := hq
    exact ⟨.inl ⟨.bool true, .bool true, [], rfl, fun _ => rfl, .bool true, post_true l _, fun _ => ⟨List.Pairwise.nil, fun _ hm => (nomatch hm)⟩⟩, h2, h3, h4⟩

/-- the same from a codeAny of the CALL (for a layer whose function contracts speak of calls) -/
theorem attach_call {l : OpenLaw} {n : Nat} {q : Program} {loose : List Str} {XP : (Str → Option Value) → Heap → Prop} {YP : World → Heap → Prop} {d : DefRec}
    (hn : l.most = some n) (hdf : d.params.defaults = [])
    (call : ∀ (w : World) (s₀ s₁ : Shared) (mg mb : Str → Option Value) (fa : Addr) (o : Obj) (pm cd doc : Value) (a : Addr) (vs : List Value) (ns : List Int),
      Ground q loose [] XP w s₀ mg mb s₁.heap → YP w s₁.heap →
      s₁.heap.get? fa = some o → o.data = .func (docDef d.name d.params d.body d.scope pm cd doc) → s₁.heap.CodeRec cd d.name → mg d.name = some (.ref fa) →
      s₁.heap.get? a = some { cls := .type "list", data := .seq vs.toArray } → IntsAre vs ns → ns.length ≤ n → s₁.gens = #[] →
      codeAny (model l.prog w) callerA (.call (.ref fa) ⟨[.ref a], []⟩) (fun r s' => r = .ok (.ret (.bool true)) ∧ OldK s₁.heap s'.heap ∧ s'.os = s₁.os ∧ AllBare s'.gens) s₁) :
    WalkO q loose XP YP l.row.toRowW d [] (fun f vs => PySem.call f vs) := by
  intro w s₀ s₁ mg mb G Y fa o pm cd doc dV kV ho hd hcd hD hmg hg args vals as hpre hlay hrd hwl hlo
  obtain rfl : dV = .none := Dflts.none hD hdf
  obtain rfl : kV = .none := Dflts.noKw hD
  obtain ⟨a, vs, ns, rfl, rfl, hobj, hints, hlen⟩ := script_of hn hpre hwl
  refine enter_call (codeAny_mono (call w s₀ s₁ mg mb fa o pm cd doc a vs ns G Y ho (fd_plain hd) hcd hmg hobj hints hlen hg) fun r s' hq => ?_)
  obtain ⟨rfl, h2, h3, h4⟩ := hq
  exact ⟨.inl ⟨.bool true, .bool true, [], rfl, fun _ => rfl, .bool true, post_true l _, fun _ => ⟨List.Pairwise.nil, fun _ hm => (nomatch hm)⟩⟩, h2, h3, h4⟩

/-- the same where the top left finished generators (o_head chose holds_openN): nothing may have changed at all and no generator may be left -/
theorem attachN {l : OpenLaw} {n : Nat} {q : Program} {loose : List Str} {XP : (Str → Option Value) → Heap → Prop} {YP : World → Heap → Prop} {d : DefRec} {x : Str}
    (hn : l.most = some n) (hdf : d.params.defaults = [])
    (hbind : ∀ pm cd doc v : Value, bindArgs (docDef d.name d.params d.body d.scope pm cd doc) ⟨[v], []⟩ = pure [(x, v)])
    (hx : d.scope.names.lookup x = some .local ∨ d.scope.names.lookup x = some .cell)
    (hk : d.scope.kind = .function) (hco : d.scope.isCoroutine = false) (hgen : d.scope.isGenerator = false)
    (body : ∀ (w : World) (s₀ s₁ s : Shared) (mg mb : Str → Option Value) (fa : Addr) (o : Obj) (pm cd doc : Value) (a : Addr) (vs : List Value) (ns : List Int),
      Ground q loose [] XP w s₀ mg mb s₁.heap → YP w s₁.heap →
      s₁.heap.get? fa = some o → o.data = .func (docDef d.name d.params d.body d.scope pm cd doc) → s₁.heap.CodeRec cd d.name → mg d.name = some (.ref fa) →
      s₁.heap.get? a = some { cls := .type "list", data := .seq vs.toArray } → IntsAre vs ns → ns.length ≤ n →
      s.gens = #[] → s.os = s₁.os →
      Fr s₁.heap s₁.heap.objs.size s.heap (bindL (envOfC d.name d.scope s₁.heap.objs.size fa cd).kindOf [(x, .ref a)] fun _ => none) →
      Cl s₁.heap.objs.size (cellsFrom (s₁.heap.objs.size + 1) d.scope.names []) s.heap (bindC (envOfC d.name d.scope s₁.heap.objs.size fa cd).kindOf [(x, .ref a)] fun _ => none) →
      wpAny (model l.prog w) (callerA.deeper (envOfC d.name d.scope s₁.heap.objs.size fa cd)) (execs d.body (envOfC d.name d.scope s₁.heap.objs.size fa cd))
        (fun f s' => f = .ret (.bool true) ∧ (∀ b o, s₁.heap.get? b = some o → s'.heap.get? b = some o) ∧ s'.os = s₁.os ∧ s'.gens = #[]) (fun _ _ => False) s) :
    WalkN q loose XP YP l.row.toRowW d [] (fun f vs => PySem.call f vs) := by
  intro w s₀ s₁ mg mb G Y fa o pm cd doc dV kV ho hd hcd hD hmg hg args vals as hpre hlay hrd hwl hlo
  obtain rfl : dV = .none := Dflts.none hD hdf
  obtain rfl : kV = .none := Dflts.noKw hD
  obtain ⟨a, vs, ns, rfl, rfl, hobj, hints, hlen⟩ := script_of hn hpre hwl
  refine enter_callW ?_
  refine call_cells_ret (o := o) (by rw [depth_caller]; decide) ho (fd_plain hd) G.T.nolimit hcd (hbind pm cd doc (.ref a)) (fun y hy => ?_) (fun h₁ tk F X => ?_) hco hgen hk
  · obtain rfl : y = (x, Value.ref a) := List.mem_singleton.mp hy
    rcases hx with e | e
    · exact .inl e
    · exact .inr ⟨e, cellsFrom_some _ _ _ (.inl e)⟩
  · refine wpAny_mono (body w s₀ s₁ { s₁ with heap := h₁, toks := tk } mg mb fa o pm cd doc a vs ns G Y ho (fd_plain hd) hcd hmg hobj hints hlen hg rfl F X) (fun f s' hq => ?_) (fun _ _ hq => hq)
    obtain ⟨rfl, h2, h3, h4⟩ := hq
    exact ⟨.inl ⟨.bool true, .bool true, [], rfl, fun _ => rfl, .bool true, post_true l _, fun _ => ⟨List.Pairwise.nil, fun _ hm => (nomatch hm)⟩⟩, h2, h3, h4⟩

/-! ### rules over ANY heap (no ledger) from facts about the written part K: the library's own take a ledger (News) for what they write -/
section
variable {prog : Program} {w : World} {A : Around} {E : Value → Shared → Prop} {s : Shared} {K : Frag}

/-- a def of the module, or a method (qual 'C.m'), entered: the frame is the next address; cells behind it -/
theorem call_fn {R : Result → Shared → Prop} {name qual : Str} {params : Arguments} {body : List Stmt} {scope : Scope} {dV kV doc pm cdv ct oc : Value} {an od : Option Addr} {osl : Array (Option Value)} {f : Addr} {args : Args} {binds : List (Str × Value)}
    (X : K.In s.heap) (hlim : s.heap.NoLimit) (ho : K.lookup f = some ⟨oc, od, .func (fnOf name qual params body scope dV kV doc pm an cdv ct), osl⟩) (hcd : codeIn K cdv qual = true) (hroom : A.depth < recursionLimit)
    (hbind : BindsTo s (fnOf name qual params body scope dV kV doc pm an cdv ct) args binds)
    (hkind : (binds.all fun y => scope.names.lookup y.1 == some .local || scope.names.lookup y.1 == some .cell) = true)
    (h : ∀ s₁, InCallC s s.heap.objs.size (bindL (envOfC qual scope s.heap.objs.size f cdv).kindOf binds fun _ => none) (cellsFrom (s.heap.objs.size + 1) scope.names [])
        (bindC (envOfC qual scope s.heap.objs.size f cdv).kindOf binds fun _ => none) s₁ →
      wpAny (model prog w) (A.deeper (envOfC qual scope s.heap.objs.size f cdv)) (execs body (envOfC qual scope s.heap.objs.size f cdv))
        (fun fl s' => R (.ok (.ret (match fl with | .ret v => v | _ => .none))) s')
        (fun e s' => wpAny (model prog w) (A.deeper (envOfC qual scope s.heap.objs.size f cdv)) (leaving (envOfC qual scope s.heap.objs.size f cdv) e) (fun _ s'' => R (.error e) s'') (fun e' s'' => R (.error e') s'') s') s₁)
    (hco : scope.isCoroutine = false) (hgen : scope.isGenerator = false) (hk : scope.kind = .function) : codeAny (model prog w) A (.call (.ref f) args) R s := by
  refine codeAny_call_function hroom (X _ _ ho) rfl hco hgen rfl (codeRec_of X hcd) (hbind _ _ _ _ ?_)
  refine wpAny_newFunctionEnv_cells hk (kindsX hkind _) fun env he s₁ x => ?_
  subst he
  exact ⟨hlim.keeps x.toInCall.keep, codeAny_func (h s₁ x)⟩

/-- C(..): dict at size, instance at size + 1, then __init__ -/
theorem make_obj {R : Result → Shared → Prop} {C fI : Addr} {rest : List Value} {kw : List (Str × Value)}
    (X : K.In s.heap) (hm : makesIn K C = true) (hi : findIn K (.ref C) "__init__" = some (some (.ref fI))) (hf : isFn K (.ref fI) = true)
    (h : codeAny (model prog w) (A.under (.builtin "type.__call__" ⟨.ref C :: rest, kw⟩)) (.call (.ref fI) ⟨.ref (s.heap.objs.size + 1) :: rest, kw⟩) (InitBack (s.heap.objs.size + 1) R)
      { s with heap := (s.heap.push emptyDict).push (instObj C s.heap.objs.size) }) : codeAny (model prog w) A (.call (.ref C) ⟨rest, kw⟩) R s := by
  obtain ⟨hh, g, d, t, os⟩ := s
  exact make_core (makes_of X hm) (looks_findIn X hi) (fun self => bind_fn X self (beq_iff_eq.mp hf)) (.inl rfl) h

/-- x.name where the instance's dict holds the name and the class does not -/
theorem get_field {x C : Addr} {ox : Obj} {es : List DictEntry} {n : Nat} {name : Str} {expr : Bool} {v : Value} {Q : Value → Shared → Prop}
    (X : K.In s.heap) (I : PySem.W.InstAt s.heap x ox C (some (dictOf es n))) (hg : plainGet K C name = true) (hh : hasDictIn K C = true) (ha : findIn K (.ref C) name = some none)
    (hl : getL name es = some (some v)) (hv : handedIn v = true) (h : Q v { s with toks := s.toks + 1 }) : wpAny (model prog w) A (getAttr (.ref x) name expr) Q E s :=
  get_value X I (plainGet_of hg).1 (findObj_own hh ha rfl hl) hv h

/-- x.m(..): the method found in the class -/
theorem get_method {x C f : Addr} {ox : Obj} {es : List DictEntry} {n : Nat} {name : Str} {pl : Sem Bool} {Q : Value × List Value → Shared → Prop}
    (X : K.In s.heap) (I : PySem.W.InstAt s.heap x ox C (some (dictOf es n))) (hg : plainGet K C name = true) (hf : findIn K (.ref C) name = some (some (.ref f))) (ht : isFn K (.ref f) = true)
    (hl : getL name es = some none) (h : Q (.ref f, [.ref x]) s) : wpAny (model prog w) A (getMethod (.ref x) name pl) Q E s :=
  method_fn X I (plainGet_of hg).1 (plainGet_of hg).2 hf (beq_iff_eq.mp ht) (by show (lookIn name (dictOf es n)).map _ = _; rw [lookIn_dict, hl]; rfl) h

/-! the whole heap as the ledger: makes every rule that writes through a ledger a rule over any heap -/
def noObjs (h : Heap) : Heap := { h with objs := #[] }
theorem noObjs_get (h : Heap) (b : Addr) : (noObjs h).get? b = none := by
  cases e : (noObjs h).get? b with
  | none => rfl
  | some o => exact absurd (Heap.lt_size e) (Nat.not_lt_zero _)
def ledger (h : Heap) (L d : Addr) : List (Addr × Obj) := (List.range h.objs.size).filterMap fun a => if a = L ∨ a = d then none else (h.get? a).map fun o => (a, o)
theorem mem_ledger {h : Heap} {L d a : Addr} {o : Obj} : (a, o) ∈ ledger h L d ↔ a ≠ L ∧ a ≠ d ∧ h.get? a = some o := by
  unfold ledger
  rw [List.mem_filterMap]
  constructor
  · rintro ⟨b, _, e⟩
    split at e
    · cases e
    · rename_i hb
      obtain ⟨o', ho, e'⟩ := Option.map_eq_some_iff.mp e
      cases e'
      exact ⟨fun q => hb (.inl q), fun q => hb (.inr q), ho⟩
  · rintro ⟨n1, n2, ho⟩
    refine ⟨a, List.mem_range.mpr (Heap.lt_size ho), ?_⟩
    rw [if_neg (show ¬ (a = L ∨ a = d) from fun q => q.elim n1 n2), ho] <;> rfl
theorem news_ledger {h : Heap} {L d : Addr} {od : Obj} (hne : d ≠ L) (ho : h.get? d = some od) : News (noObjs h) L h ([] ++ (d, od) :: ledger h L d) := by
  rintro ⟨a, o⟩ hp
  rcases List.mem_cons.mp hp with e | hp
  · cases e
    exact ⟨ho, hne, noObjs_get _ _⟩
  · obtain ⟨n1, n2, e⟩ := mem_ledger.mp hp
    exact ⟨e, n1, noObjs_get _ _⟩
theorem fr_all {h : Heap} {L : Addr} {m : Str → Option Value} (n : h.Ns L m) : Fr (noObjs h) L h m :=
  ⟨n, fun b o e => (by rw [noObjs_get] at e; cases e), Nat.zero_le _⟩
/-- Upd of the head entry (for append_K, setItem_K ..) -/
theorem upd_ledger {h : Heap} {L d : Addr} {o o' : Obj} : Upd d o o' ((d, o) :: ledger h L d) ((d, o') :: ledger h L d) :=
  .head fun ⟨_, _⟩ hp => (mem_ledger.mp hp).2.1

/-- x.name = v over any heap: L is any namespace of the heap (the frame's, say): its map stays, its object is not told; all else but the dict stays -/
theorem set_field {x C dx L : Addr} {ox : Obj} {m : Str → Option Value} {es es' : List DictEntry} {n n' : Nat} {name : Str} {v : Value} {Q : Unit → Shared → Prop}
    (X : K.In s.heap) (I : PySem.W.InstAt s.heap x ox C (some (dictOf es n))) (hd : ox.dict = some dx) (hL : s.heap.Ns L m) (hne : dx ≠ L)
    (hs : findIn K (.ref C) "__setattr__" = some (some (.builtin "object.__setattr__"))) (hp : plainOver K C = true) (ht : takerIn K C name = some none) (hh : hasDictIn K C = true) (hl : (getL name es).isSome = true)
    (e : (putL name (PyData.keyHash w.params name) (.str name (s.toks + 1)) v es, putN name es n) = (es', n')) (hz : es'.length ≤ 1000)
    (h : ∀ h' : Heap, h'.Ns L m → h'.get? dx = some (dictOf es' n') → (∀ b o, b ≠ dx → b ≠ L → s.heap.get? b = some o → h'.get? b = some o) → Q () { s with heap := h', toks := s.toks + 2 }) :
    wpAny (model prog w) A (setAttr (.ref x) name v) Q E s := by
  obtain ⟨e1, e2⟩ := Prod.mk.inj e
  have hdx : s.heap.get? dx = some (dictOf es n) := by
    have := I.dict
    rw [hd] at this
    exact this
  refine set_plain X I hs (osa_dict (s := { s with toks := s.toks + 1 }) (h₀ := noObjs s.heap) (L := L) (m := m) (od := dictOf es n) (od' := dictOf es' n') (es := es') (n := n') (pre := []) (post := ledger s.heap L dx)
    (fr_all hL) (news_ledger hne hdx) X I hd hp ht hh hl (fun _ q => nomatch q) (fun ⟨_, _⟩ q => (mem_ledger.mp q).2.1) (by rw [putName_dict, e1, e2]) rfl hz fun h' F' N' => ?_)
  exact h h' F'.ns (N'.get (List.Mem.head _)) fun b o n1 n2 ho => N'.get (List.Mem.tail _ (mem_ledger.mpr ⟨n2, n1, ho⟩))
end
end Att

namespace L2
open PySem PySem.Spec PyProof.Rows

theorem vals_ints : ∀ {vs : List Value} {ns : List Int}, IntsAre vs ns → Vals (ns.map V.int) vs
  | _, _, .nil => .nil
  | _, _, .cons n t h => .cons ⟨t, rfl⟩ (vals_ints h)

/-- nothing is tracked but the script, known to the object (or it is an object of the module) -/
def Only (H : Hp) : Prop := ∀ b, H b = none ∨ ∃ o xs, H b = some (.frz o (.lst xs))

/-- THE HEAD: the law's promise, at the heap behind the top. F, the promise of the law's def, may use that base is part of the heap (so K.In base, base.Ns mainGlobals mg stand in Mod) -/
theorem law_call {P : Program} {w : World} {K : PySem.W.Frag} {mg mb : Str → Option Value} {CX : CXT} {k : Nat} {fa a : Addr} {fd : FuncData} {x : Str} {sp : Sp} {s₁ : Shared} {vs : List Value} {ns : List Int}
    (KX : K.In s₁.heap) (hns : s₁.heap.Ns mainGlobals mg) (hb : s₁.heap.Ns builtinsNs mb) (hbb : ∀ x : Str, x ≠ "__name__" → mb x = bootBuiltins x) (hlim : s₁.heap.NoLimit) (hg : s₁.gens = #[])
    (ha : s₁.heap.get? a = some { cls := .type "list", data := .seq vs.toArray }) (hi : IntsAre vs ns) (hl : ns.length ≤ sizeLine) (hr : Room k callerA)
    (F : ∀ base : Heap, K.In base → base.Ns mainGlobals mg → FnOk P w K mg base CX k fa fd [x] sp) (hbind : ∀ (s : Shared) (u : Value), BindsTo s fd ⟨[u], []⟩ [(x, u)])
    (hsp : ∀ H : Hp, Only H → SqL K H a (ns.map V.int) → sp [.ref a] H (fun v _ => v = .bl true) fun _ _ _ => False)
    (hCX : ∀ H e s', CX [] H s₁ (fun _ _ _ => False) e s' → False) :
    codeAny (model P w) callerA (.call (.ref fa) ⟨[.ref a], []⟩) (fun r s' => r = .ok (.ret (.bool true)) ∧ OldK s₁.heap s'.heap ∧ s'.os = s₁.os ∧ AllBare s'.gens) s₁ := by
  have rv := vals_ints hi
  have lenV := hi.length
  -- from an abstract heap in which nothing but the script may be tracked
  have core : ∀ H : Hp, Only H → SqL K H a (ns.map V.int) → HOk P w H s₁.heap → (∀ b, H b ≠ none → b = a) → (H a ≠ none → K.lookup a = none) →
      codeAny (model P w) callerA (.call (.ref fa) ⟨[.ref a], []⟩) (fun r s' => r = .ok (.ret (.bool true)) ∧ OldK s₁.heap s'.heap ∧ s'.os = s₁.os ∧ AllBare s'.gens) s₁ := by
    intro H hO hS hok hA hK
    have base_of : ∀ {b : Addr} {o : Obj}, s₁.heap.get? b = some o → H b = none → (hidT s₁.heap H).get? b = some o := fun e n => hidT_get e n
    have noA : ∀ {b : Addr} {o : Obj} {es : Array DictEntry} {ep : Nat}, s₁.heap.get? b = some o → o.data = .dict es ep → H b = none := fun {b o es ep} e d => by
      cases q : H b with
      | none => rfl
      | some u =>
        have e' : b = a := hA b (by rw [q]; simp)
        subst e'
        rw [ha] at e; cases e
        have d' : Data.seq vs.toArray _ = Data.dict es ep := d
        cases d'
    have nsK : ∀ {b : Addr} {m : Str → Option Value}, s₁.heap.Ns b m → (hidT s₁.heap H).Ns b m := fun {b m} ⟨o, es, ep, e, d, r⟩ => ⟨o, es, ep, base_of e (noA e d), d, r⟩
    have hKb : K.In (hidT s₁.heap H) := fun b o e => base_of (KX b o e) (by
      cases q : H b with
      | none => rfl
      | some u =>
        have e' : b = a := hA b (by rw [q]; simp)
        subst e'
        rw [hK (by rw [q]; simp)] at e; cases e)
    have hM : Mod K mg (hidT s₁.heap H) := ⟨hKb, nsK hns, ⟨mb, nsK hb, hbb⟩, let ⟨mc, h1, h2⟩ := hlim; ⟨mc, nsK h1, h2⟩⟩
    have e0 : Env0 P w K mg (hidT s₁.heap H) callerA [] s₁ H := ⟨rfl, hM, fun b o e => of_hidT e, Nat.le_of_eq (hidT_size _ _), trivial, fun b hb => absurd (show b ∈ ([] : List Addr) from hb) (by simp), hok, .of_eq hg⟩
    refine codeAny_mono ((F _ hKb (nsK hns)).run callerA [] s₁ H ⟨[.ref a], []⟩ [.ref a] [.ref a] _ _ hr e0 (hbind s₁ (.ref a)) (.cons rfl .nil) (hsp H hO hS)) fun r s' h => ?_
    cases r with
    | error e => exact (hCX H e s' h).elim
    | ok fl =>
      cases fl with
      | next => exact False.elim h
      | brk => exact False.elim h
      | cont => exact False.elim h
      | ret u =>
        obtain ⟨v, H', os, bare, un, hok', r', q⟩ := h
        have q' : v = .bl true := q
        subst q'
        obtain rfl : u = Value.bool true := r'
        refine ⟨rfl, OldK.of_keep fun b o e => ?_, os, bare⟩
        cases q : H b with
        | none => exact un.keep b o e q (by intro z; exact absurd (show b ∈ ([] : List Addr) from z) (by simp)) (by simp)
        | some u =>
          rcases hO b with z | ⟨ob, xs, z⟩
          · rw [q] at z; cases z
          · have z2 := un.frzs b ob _ z
            obtain ⟨e1, _⟩ := hok b _ z
            obtain ⟨e2, _⟩ := hok' b _ z2
            rw [e] at e1; cases e1
            exact e2
  cases hk : K.lookup a with
  | some o =>
    -- the script is one of the module's own objects
    have e := KX a o hk
    rw [ha] at e
    cases e
    refine core (fun _ => none) (fun _ => .inl rfl) (.inr ⟨_, vs.toArray, _, hk, rfl, rfl, rfl, by rw [List.size_toArray, lenV]; exact hl, by simpa using rv⟩) (fun b u z => by have z' : (none : Option HO) = some u := z; cases z') (fun b z => absurd rfl z) fun z => absurd rfl z
  | none =>
    refine core (fun b => if b = a then some (.frz { cls := .type "list", data := .seq vs.toArray } (.lst (ns.map V.int))) else none) (fun b => ?_) (.inl (.inr ⟨{ cls := .type "list", data := .seq vs.toArray }, if_pos rfl⟩)) (fun b u z => ?_) (fun b z => ?_) fun _ => hk
    · by_cases hb : b = a
      · exact .inr ⟨_, _, if_pos hb⟩
      · exact .inl (if_neg hb)
    · by_cases hb : b = a
      · have z' := (if_pos hb).symm.trans z
        cases z'
        subst hb
        exact ⟨ha, by rw [List.length_map]; exact hl, vs, _, rv, ha⟩
      · have z' := (if_neg hb).symm.trans z
        cases z'
    · by_cases hb : b = a
      · exact hb
      · exact absurd (if_neg hb) z
end L2

namespace L2
open PySem PySem.Spec PyProof.Rows

abbrev KOf {K : PySem.W.Frag} {h : Heap} (_ : K.In h) : PySem.W.Frag := K

/-- the goal that k_head leaves (case hc), from the law's promise. F gives the function object fd (K's own) once, then the promise over every base -/
theorem walk_of {l : PySem.W.OpenLaw} {n k : Nat} {q : Program} {loose : List Str} {XP : (Str → Option Value) → Heap → Prop} {YP : World → Heap → Prop} {d : DefRec} {K : Params → PySem.W.Frag} {CX : World → CXT} {sp : World → Sp} {x : Str}
    (hn : l.most = some n) (hn2 : n ≤ sizeLine) (hdf : d.params.defaults = []) (hr : Room k callerA)
    (hY : ∀ (w : World) (h : Heap), YP w h → (K w.params).In h)
    (F : ∀ (w : World) (mg : Str → Option Value) (fa : Addr) (h : Heap), (K w.params).In h → h.Ns mainGlobals mg → mg d.name = some (.ref fa) →
      ∃ fd : FuncData, (∀ (s : Shared) (u : Value), BindsTo s fd ⟨[u], []⟩ [(x, u)]) ∧
        ∀ base : Heap, (K w.params).In base → base.Ns mainGlobals mg → FnOk l.prog w (K w.params) mg base (CX w) k fa fd [x] (sp w))
    (hsp : ∀ (w : World) (H : Hp) (a : Addr) (ns : List Int), ns.length ≤ n → Only H → SqL (K w.params) H a (ns.map V.int) → sp w [.ref a] H (fun v _ => v = .bl true) fun _ _ _ => False)
    (hCX : ∀ (w : World) (H : Hp) (s : Shared) (e : Value) (s' : Shared), CX w [] H s (fun _ _ _ => False) e s' → False) :
    PySem.W.WalkO q loose XP YP l.row.toRowW d [] (fun f vs => PySem.call f vs) := by
  refine Att.attach_call hn hdf fun w s₀ s₁ mg mb fa o pm cd doc a vs ns G Y ho hd hcd hmg hobj hints hlen hg => ?_
  have KX := hY w _ Y
  obtain ⟨fd, hb, hF⟩ := F w mg fa _ KX G.T.g hmg
  exact law_call KX G.T.g G.T.b G.T.builtins G.T.nolimit hg hobj hints (Nat.le_trans hlen hn2) hr hF hb (fun H hO hS => hsp w H a ns hlen hO hS) fun H e s' => hCX w H s₁ e s'
/-- the same where the promise hangs on the written part alone: (sp := My.sp_law), no hole under a binder -/
theorem walk_ofK {l : PySem.W.OpenLaw} {n k : Nat} {q : Program} {loose : List Str} {XP : (Str → Option Value) → Heap → Prop} {YP : World → Heap → Prop} {d : DefRec} {K : Params → PySem.W.Frag} {CX : CXT} {sp : PySem.W.Frag → Sp} {x : Str}
    (hn : l.most = some n) (hn2 : n ≤ sizeLine) (hdf : d.params.defaults = []) (hr : Room k callerA)
    (hY : ∀ (w : World) (h : Heap), YP w h → (K w.params).In h)
    (F : ∀ (w : World) (mg : Str → Option Value) (fa : Addr) (h : Heap), (K w.params).In h → h.Ns mainGlobals mg → mg d.name = some (.ref fa) →
      ∃ fd : FuncData, (∀ (s : Shared) (u : Value), BindsTo s fd ⟨[u], []⟩ [(x, u)]) ∧
        ∀ base : Heap, (K w.params).In base → base.Ns mainGlobals mg → FnOk l.prog w (K w.params) mg base CX k fa fd [x] (sp (K w.params)))
    (hsp : ∀ (K : PySem.W.Frag) (H : Hp) (a : Addr) (ns : List Int), ns.length ≤ n → Only H → SqL K H a (ns.map V.int) → sp K [.ref a] H (fun v _ => v = .bl true) fun _ _ _ => False)
    (hCX : ∀ (H : Hp) (s : Shared) (e : Value) (s' : Shared), CX [] H s (fun _ _ _ => False) e s' → False) :
    PySem.W.WalkO q loose XP YP l.row.toRowW d [] (fun f vs => PySem.call f vs) :=
  walk_of (K := K) (CX := fun _ => CX) (sp := fun w => sp (K w.params)) hn hn2 hdf hr hY F (fun w H a ns h1 h2 h3 => hsp (K w.params) H a ns h1 h2 h3) fun _ H s e s' => hCX H s e s'
end L2

/- THE LAST THEOREM (shape; LID, My.* are yours):
   My.Adr: a structure of the addresses that your layer names (classes, functions); My.Txt K t: a structure (Prop) of the equations over K;
   My.txt_mk : {K} {implicit addresses ..} (e1 : nsIn K mainGlobals "law" = some (some (.ref f))) (e2 : K.lookup f = some ⟨oc, od, .func (fnOf "law" "law" params body scope dV kV doc pm an cdv ct), sl⟩) (e3 : codeIn K cdv "law" = true) .. : ∃ t, My.Txt K t

set_option maxRecDepth 100000 in
set_option maxHeartbeats 0 in
theorem PySem.Challenge.cw_LID_holds : PySem.Challenge.rw_LID.Holds := by
  w_on; o_law; k_head; (case hw => w_witness2)
  k_fill
  refine L2.walk_of (l := PySem.Challenge.rw_LID) (n := 63) (k := 40) (x := "script") (CX := fun w => ..) (sp := fun _ => My.sp_law) rfl (by decide) rfl ⟨rfl, by decide, by decide⟩ (fun w h Y => PySem.W.kIn_of Y) ?F ?S ?C
  case F =>
    intro w mg fa h KX G hmg
    have T : ∃ t, My.Txt (L2.KOf KX) t := by
      dsimp only [L2.KOf]                          -- K must stand as «<heap const> w.params» for k_is
      refine' My.txt_mk ?e1 ?e2 ?e3 ..
      (case e1 => PySem.W.k_is)                    -- in the order: a name -> its address -> its object -> its parts
      (case e2 => PySem.W.k_is)
      ..
    obtain ⟨t, T⟩ := T
    have e0 := hmg.symm.trans (PySem.W.mg_of KX G T.law)
    cases e0                                       -- fa is the law's own address
    exact ⟨_, fun s u => .of_eq rfl, fun base kb nb => My.law_fn T kb nb⟩     -- if «.of_eq rfl» comes too early: refine' ⟨_, ?b, fun base kb nb => My.law_fn T kb nb⟩; exact fun s u => .of_eq rfl
  case S => exact fun w H a ns hl hO hS => ..
  case C => exact ..
(the tactic k_is has no namespace: write k_is) -/

/-! SHORT WORDS over the layer: a def of the text, its body, what a loop and a test want. -/
namespace L2
open PySem PySem.Spec PyProof.Rows

/-! ### the text by places -/
/-- the j-th statement of a class's body -/
def inClass (s : Stmt) (j : Nat) : Stmt := match s with
  | .ClassDef _ _ _ body _ _ _ _ _ _ _ => body.getD j (.Pass ⟨0, 0, 0, 0⟩)
  | _ => .Pass ⟨0, 0, 0, 0⟩
def defArgs (s : Stmt) : Arguments := match s with
  | .FunctionDef _ a _ _ _ _ _ _ _ _ => a
  | _ => { posonlyargs := [], args := [], vararg := none, kwonlyargs := [], kw_defaults := [], kwarg := none, defaults := [] }
def defBody (s : Stmt) : List Stmt := match s with
  | .FunctionDef _ _ b _ _ _ _ _ _ _ => b
  | _ => []
def defScope (s : Stmt) : Scope := match s with
  | .FunctionDef _ _ _ _ _ _ sc _ _ _ => sc
  | _ => { kind := .function, names := [], isGenerator := false, isCoroutine := false }

/-! ### no exception leaves a def -/
abbrev CX0 : CXT := fun _ _ _ _ _ _ => False
abbrev E0 : XK := fun _ _ _ => False
theorem pass0 {X : Cx} : Passes CX0 X E0 := fun _ _ _ _ _ _ _ h => h.elim

/-! ### a def (or method) of the text as it stands behind the top -/
structure Fun (K : PySem.W.Frag) (x qual : Str) (st : Stmt) (f : Addr) (fd : FuncData) : Prop where
  ex : ∃ (oc : Value) (od : Option Addr) (kV doc pm : Value) (an : Option Addr) (cdv ct : Value) (osl : Array (Option Value)),
    fd = PySem.W.fnOf x qual (defArgs st) (defBody st) (defScope st) .none kV doc pm an cdv ct ∧ K.lookup f = some ⟨oc, od, .func fd, osl⟩ ∧ PySem.W.codeIn K cdv qual = true
  kp : PySem.W.keepIn K (.ref f) = true
section
variable {P : Program} {w : World} {K : PySem.W.Frag} {mg : Str → Option Value} {base : Heap}
/-- THE RULE for a def: its body as a term of rules, and the reading of that term -/
theorem Fun.ok {x qual : Str} {st : Stmt} {f : Addr} {fd : FuncData} {N ps : List Str} {k : Nat} {sp : Sp} (F : Fun K x qual st f fd) (S : FnScope N ps (defScope st)) (len : ∀ vs H Q E, sp vs H Q E → vs.length = ps.length)
    (hbody : ∀ (cdv : Value) (A : Around) (outer : List Env) (s : Shared) (H : Hp) (vs : List V) (Q : VK) (E : XK), Room k (A.deeper (envOfC qual (defScope st) s.heap.objs.size f cdv)) → sp vs H Q E →
      ∃ t, PSs (cxOf CX0 P w K mg base N qual (defScope st) f cdv A outer s H E).nox (defBody st) t ∧ t { nx := fun _ H' => Q .non H', rt := Q } (start N vs) H) : FnOk P w K mg base CX0 (k + 1) f fd ps sp := by
  obtain ⟨oc, od, kV, doc, pm, an, cdv, ct, osl, rfl, lk, hcd⟩ := F.ex
  refine fn_of lk hcd S len fun A outer s H vs Q E hr hsp => ?_
  obtain ⟨t, h, q⟩ := hbody cdv A outer s H vs Q E hr hsp
  exact ⟨t, h.nox, q⟩
/-- how its arguments bind (no defaults): h is «fun _ _ _ _ _ _ us hl => match us, hl with | [_, _], _ => rfl», one _ a parameter -/
theorem Fun.binds {x qual : Str} {st : Stmt} {f : Addr} {fd : FuncData} {ps : List Str} (F : Fun K x qual st f fd)
    (h : ∀ (kV doc pm : Value) (an : Option Addr) (cdv ct : Value) (us : List Value), us.length = ps.length → bindArgs (PySem.W.fnOf x qual (defArgs st) (defBody st) (defScope st) .none kV doc pm an cdv ct) ⟨us, []⟩ = pure (ps.zip us)) : Binds K fd ps [] := by
  obtain ⟨oc, od, kV, doc, pm, an, cdv, ct, osl, rfl, lk, hcd⟩ := F.ex
  exact .all (h kV doc pm an cdv ct)
theorem fun_mk {x qual : Str} {st : Stmt} {f : Addr} {oc : Value} {od an : Option Addr} {osl : Array (Option Value)} {kV doc pm cdv ct : Value} (l : K.lookup f = some ⟨oc, od, .func (PySem.W.fnOf x qual (defArgs st) (defBody st) (defScope st) .none kV doc pm an cdv ct), osl⟩)
    (c : PySem.W.codeIn K cdv qual = true) (k : PySem.W.keepIn K (.ref f) = true) : Fun K x qual st f (PySem.W.fnOf x qual (defArgs st) (defBody st) (defScope st) .none kV doc pm an cdv ct) := ⟨⟨oc, od, kV, doc, pm, an, cdv, ct, osl, rfl, l, c⟩, k⟩
end
theorem hu_of {A : Around} {k : Nat} (hr : Room k A) : A.units + 1 < cLine := Nat.lt_of_le_of_lt (Nat.add_le_add_left (by decide : 1 ≤ 64) _) hr.units
theorem small1000 {n : Nat} (h : n ≤ 1000) : n < sizeLine := Nat.lt_of_le_of_lt h (by decide)

/-! ### expressions in short: the name that stands in the i-th slot -/
section
variable {X : Cx}
theorem pv (i : Nat) {x : Str} {pos : Pos} (hN : X.N[i]? = some x := by rfl) (hv : Vis X.env.scope x := by first | exact Or.inl rfl | exact Or.inr (Or.inl rfl) | exact Or.inr (Or.inr rfl)) (hd : (x == ("__debug__" : Str)) = false := by decide)
    (hcd : (x == ("__classdict__" : Str)) = false := by decide) : PE X (.Name x pos) (tVar i) := pe_var hN hv hd hcd
end

/-! ### tests -/
theorem iteF {A B : Prop} (h : B) : if false = true then A else B := by
  rw [if_neg Bool.false_ne_true]
  exact h
theorem iteT {A B : Prop} (h : A) : if true = true then A else B := by
  rw [if_pos rfl]
  exact h
theorem ite2 {c A B : Prop} [Decidable c] (h1 : c → A) (h2 : ¬ c → B) : if c then A else B := by
  by_cases h : c
  · rw [if_pos h]
    exact h1 h
  · rw [if_neg h]
    exact h2 h
theorem iteNS {c A B : Prop} [Decidable c] (hc : c) (h : B) : if (!decide c) = true then A else B := by
  rw [decide_eq_true hc]
  exact iteF h

/-! ### heaps -/
/-- all that was tracked is as it was -/
def Same (H H' : Hp) : Prop := ∀ b o, H b = some o → H' b = some o
theorem Same.refl (H : Hp) : Same H H := fun _ _ h => h
theorem Same.trans {H H1 H2 : Hp} (a : Same H H1) (b : Same H1 H2) : Same H H2 := fun c o h => b c o (a c o h)
theorem Same.free {H H' : Hp} (e : Same H H') {l : Addr} (h : H' l = Option.none) : H l = Option.none := by
  cases q : H l with
  | none => rfl
  | some o =>
    rw [e l o q] at h
    cases h
theorem Same.seq {K : PySem.W.Frag} {H H' : Hp} {a : Addr} {xs : List V} (e : Same H H') (h : SqL K H a xs) : SqL K H' a xs := by
  rcases h with (h | ⟨o, h⟩) | h
  · exact .inl (.inl (e _ _ h))
  · exact .inl (.inr ⟨o, e _ _ h⟩)
  · exact .inr h

end L2
set_option maxHeartbeats 4000000
namespace TT
open PySem

/-! ### trees and their paths -/
inductive Tr where
  | node (m : Str) (ks : List Tr)
def Tr.mark : Tr → Str
  | .node m _ => m
def Tr.kids : Tr → List Tr
  | .node _ ks => ks
mutual
def Tr.knots : Tr → Nat
  | .node _ ks => 1 + knotsOf ks
def knotsOf : List Tr → Nat
  | [] => 0
  | t :: ts => t.knots + knotsOf ts
end
theorem knots_eq (t : Tr) : t.knots = 1 + knotsOf t.kids := by cases t; rfl
theorem knotsOf_append : ∀ (a b : List Tr), knotsOf (a ++ b) = knotsOf a + knotsOf b
  | [], b => by simp [knotsOf]
  | t :: a, b => by rw [List.cons_append, knotsOf, knotsOf_append a b, knotsOf]; omega
theorem knotsOf_perm {a b : List Tr} (h : a.Perm b) : knotsOf a = knotsOf b := by
  induction h with
  | nil => rfl
  | cons x _ ih => rw [knotsOf, knotsOf, ih]
  | swap x y l => simp only [knotsOf]; omega
  | trans _ _ i1 i2 => exact i1.trans i2
theorem length_le_knots : ∀ ts : List Tr, ts.length ≤ knotsOf ts
  | [] => Nat.le_refl _
  | t :: ts => by
    have := length_le_knots ts
    rw [List.length_cons, knotsOf, knots_eq]; omega
theorem knots_mem {t : Tr} : ∀ {ts : List Tr}, t ∈ ts → t.knots ≤ knotsOf ts
  | a :: ts, h => by
    rcases List.mem_cons.mp h with rfl | h
    · rw [knotsOf]; omega
    · have := knots_mem h; rw [knotsOf]; omega
mutual
/-- the paths in a tree, its top the empty one -/
def Tr.pp : Tr → List (List Int)
  | .node _ ks => [] :: pps 0 ks
/-- the paths in a row, the first tree at place i -/
def pps : Nat → List Tr → List (List Int)
  | _, [] => []
  | i, t :: ts => t.pp.map (fun p => (i : Int) :: p) ++ pps (i + 1) ts
end
theorem pp_eq (t : Tr) : t.pp = [] :: pps 0 t.kids := by cases t; rfl
mutual
theorem Tr.pp_length : ∀ t : Tr, t.pp.length = t.knots
  | .node _ ks => by rw [Tr.pp, Tr.knots, List.length_cons, pps_length 0 ks]; omega
theorem pps_length : ∀ (i : Nat) (ts : List Tr), (pps i ts).length = knotsOf ts
  | _, [] => rfl
  | i, t :: ts => by rw [pps, knotsOf, List.length_append, List.length_map, Tr.pp_length t, pps_length (i + 1) ts]
end
/-- a path and the trees below it: its paths -/
abbrev Job := List Int × List Tr
def Job.all (j : Job) : List (List Int) := (pps 0 j.2).map (j.1 ++ ·)
def subs (p : List Int) : Nat → List Tr → List Job
  | _, [] => []
  | i, t :: ts => (p ++ [(i : Int)], t.kids) :: subs p (i + 1) ts
def allOf (js : List Job) : List (List Int) := js.flatMap Job.all
theorem allOf_nil : allOf [] = [] := rfl
theorem allOf_cons (j : Job) (js : List Job) : allOf (j :: js) = j.all ++ allOf js := by simp [allOf]
theorem allOf_append (a b : List Job) : allOf (a ++ b) = allOf a ++ allOf b := by simp [allOf]
theorem subs_append (p : List Int) : ∀ (i : Nat) (a b : List Tr), subs p i (a ++ b) = subs p i a ++ subs p (i + a.length) b
  | i, [], b => by simp [subs]
  | i, t :: a, b => by
    rw [List.cons_append, subs, subs_append p (i + 1) a b, subs, List.cons_append, List.length_cons]
    congr 3
    omega
theorem subs_length (p : List Int) : ∀ (i : Nat) (ts : List Tr), (subs p i ts).length = ts.length
  | _, [] => rfl
  | i, t :: ts => by rw [subs, List.length_cons, subs_length p (i + 1) ts, List.length_cons]
theorem pps_split (p : List Int) : ∀ (i : Nat) (ts : List Tr), ((pps i ts).map (p ++ ·)).Perm ((subs p i ts).map (·.1) ++ allOf (subs p i ts))
  | _, [] => .nil
  | i, t :: ts => by
    have ih := pps_split p (i + 1) ts
    rw [pps, subs, List.map_append, List.map_cons, allOf_cons, pp_eq, List.map_cons, List.map_cons, List.map_map, List.cons_append, List.cons_append]
    refine List.Perm.cons _ ?_
    have e : Job.all (p ++ [(i : Int)], t.kids) = (pps 0 t.kids).map ((fun x => p ++ x) ∘ fun q => (i : Int) :: q) := by
      unfold Job.all
      refine List.map_congr_left fun q _ => ?_
      simp
    rw [e]
    refine (List.Perm.append_left _ ih).trans ?_
    rw [← List.append_assoc, ← List.append_assoc]
    exact List.Perm.append_right _ List.perm_append_comm
theorem job_split (j : Job) : j.all.Perm ((subs j.1 0 j.2).map (·.1) ++ allOf (subs j.1 0 j.2)) := pps_split j.1 0 j.2
theorem job_len (j : Job) : j.all.length = knotsOf j.2 := by unfold Job.all; rw [List.length_map, pps_length]
/-- a turn of the search that takes the last job -/
theorem turn_last {F : List (List Int)} {T : List Job} {j : Job} {C : List (List Int)} (h : (F ++ allOf (T ++ [j])).Perm C) :
    ((F ++ (subs j.1 0 j.2).map (·.1)) ++ allOf (T ++ subs j.1 0 j.2)).Perm C := by
  refine List.Perm.trans ?_ h
  rw [allOf_append, allOf_append, allOf_cons, allOf_nil, List.append_nil, List.append_assoc]
  refine List.Perm.append_left _ ?_
  refine List.Perm.trans ?_ (List.Perm.append_left _ (job_split j).symm)
  rw [← List.append_assoc, ← List.append_assoc]
  exact List.Perm.append_right _ List.perm_append_comm
/-- a turn of the search level by level -/
def deeper (js : List Job) : List Job := js.flatMap fun j => subs j.1 0 j.2
theorem deeper_perm : ∀ js : List Job, (allOf js).Perm ((deeper js).map (·.1) ++ allOf (deeper js))
  | [] => .nil
  | j :: js => by
    have ih := deeper_perm js
    have e : deeper (j :: js) = subs j.1 0 j.2 ++ deeper js := by simp [deeper]
    rw [e, allOf_cons, allOf_append, List.map_append]
    refine (List.Perm.append (job_split j) ih).trans ?_
    rw [List.append_assoc, List.append_assoc]
    refine List.Perm.append_left _ ?_
    rw [← List.append_assoc, ← List.append_assoc]
    exact List.Perm.append_right _ List.perm_append_comm
theorem turn_level {F : List (List Int)} {L : List Job} {C : List (List Int)} (h : (F ++ allOf L).Perm C) : ((F ++ (deeper L).map (·.1)) ++ allOf (deeper L)).Perm C := by
  refine List.Perm.trans ?_ h
  rw [List.append_assoc]
  exact List.Perm.append_left _ (deeper_perm L).symm
theorem deeper_none {L : List Job} (h : deeper L = []) : allOf L = [] := by
  have := (deeper_perm L).length_eq
  rw [h] at this
  simp only [List.map_nil, allOf_nil, List.append_nil, List.length_nil] at this
  exact List.eq_nil_of_length_eq_zero this

/-! ### the order of lists of ints -/
open HT
theorem lex_irr : ∀ a : List Int, HT.lexLt a a = false
  | [] => rfl
  | x :: a => by simp [HT.lexLt, lex_irr a]
theorem lex_tr : ∀ a b c : List Int, HT.lexLt a b = true → HT.lexLt b c = true → HT.lexLt a c = true
  | [], [], _, h, _ => by simp [HT.lexLt] at h
  | [], _ :: _, [], _, h => by simp [HT.lexLt] at h
  | [], _ :: _, _ :: _, _, _ => rfl
  | _ :: _, [], _, h, _ => by simp [HT.lexLt] at h
  | _ :: _, _ :: _, [], _, h => by simp [HT.lexLt] at h
  | x :: a, y :: b, z :: c, h, k => by
    simp only [HT.lexLt] at h k ⊢
    by_cases e1 : x = y
    · subst e1
      rw [if_pos rfl] at h
      by_cases e2 : x = z
      · rw [if_pos e2] at k ⊢; exact lex_tr a b c h k
      · rw [if_neg e2] at k ⊢; exact k
    · rw [if_neg e1] at h
      have h' := of_decide_eq_true h
      by_cases e2 : y = z
      · subst e2
        rw [if_neg e1]; exact h
      · rw [if_neg e2] at k
        have k' := of_decide_eq_true k
        rw [if_neg (by omega)]
        exact decide_eq_true (by omega)
theorem lex_tot : ∀ a b : List Int, HT.lexLt a b = false → HT.lexLt b a = false → a = b
  | [], [], _, _ => rfl
  | [], _ :: _, h, _ => by simp [HT.lexLt] at h
  | _ :: _, [], _, h => by simp [HT.lexLt] at h
  | x :: a, y :: b, h, k => by
    simp only [HT.lexLt] at h k
    by_cases e : x = y
    · subst e
      rw [if_pos rfl] at h k
      rw [lex_tot a b h k]
    · rw [if_neg e] at h
      rw [if_neg (Ne.symm e)] at k
      have := of_decide_eq_false h
      have := of_decide_eq_false k
      omega
theorem lex_neg (a b c : List Int) (h : HT.lexLt a c = true) : HT.lexLt a b = true ∨ HT.lexLt b c = true := by
  cases h1 : HT.lexLt a b with
  | true => exact .inl rfl
  | false =>
    cases h2 : HT.lexLt b a with
    | true => exact .inr (lex_tr _ _ _ h2 h)
    | false => rw [lex_tot a b h1 h2] at h; exact .inr h
/-- sorted, as sorted() leaves it -/
def Rising (l : List (List Int)) : Prop := l.Pairwise fun a b => HT.lexLt b a = false
theorem rising_one : ∀ (a b : List (List Int)), a.Perm b → Rising a → Rising b → a = b
  | [], b, h, _, _ => h.nil_eq
  | x :: a, [], h, _, _ => absurd h.length_eq (by simp)
  | x :: a, y :: b, h, ha, hb => by
    obtain ⟨h1, h2⟩ := List.pairwise_cons.mp ha
    obtain ⟨k1, k2⟩ := List.pairwise_cons.mp hb
    have e : x = y := by
      have mx : x ∈ y :: b := h.mem_iff.mp List.mem_cons_self
      have my : y ∈ x :: a := h.mem_iff.mpr List.mem_cons_self
      rcases List.mem_cons.mp mx with e | mx
      · exact e
      · rcases List.mem_cons.mp my with e | my
        · exact e.symm
        · exact lex_tot _ _ (k1 x mx) (h1 y my)
    subst e
    rw [rising_one a b ((List.perm_cons x).mp h) h2 k2]

/-! ### whether a path leads to a knot -/
def down : List Tr → List Int → Option (List Tr)
  | ts, [] => some ts
  | ts, i :: p => if i < 0 then none else match ts[i.toNat]? with
    | none => none
    | some t => down t.kids p
theorem down_append : ∀ (ts : List Tr) (p q : List Int), down ts (p ++ q) = (down ts p).bind fun u => down u q
  | ts, [], q => rfl
  | ts, i :: p, q => by
    rw [List.cons_append, down, down]
    by_cases h : i < 0
    · rw [if_pos h, if_pos h]; rfl
    · rw [if_neg h, if_neg h]
      cases e : ts[i.toNat]? with
      | none => rfl
      | some t => exact down_append t.kids p q
theorem down_pps : ∀ (n : Nat) (ts : List Tr), knotsOf ts ≤ n → ∀ (pre : List Tr) (p : List Int), p ∈ pps pre.length ts → ∃ u, down (pre ++ ts) p = some u
  | n, [], _, pre, p, h => by simp [pps] at h
  | 0, t :: ts, hn, _, _, _ => by rw [knotsOf, knots_eq] at hn; omega
  | n + 1, t :: ts, hn, pre, p, h => by
    rw [knotsOf, knots_eq] at hn
    rw [pps] at h
    rcases List.mem_append.mp h with h | h
    · obtain ⟨q, hq, rfl⟩ := List.mem_map.mp h
      have e : (pre ++ t :: ts)[((pre.length : Nat) : Int).toNat]? = some t := by simp
      rw [down, if_neg (by omega), e]
      rw [pp_eq] at hq
      rcases List.mem_cons.mp hq with rfl | hq
      · exact ⟨_, rfl⟩
      · exact down_pps n t.kids (by omega) [] q hq
    · have := down_pps n ts (by omega) (pre ++ [t]) p (by simpa using h)
      simpa using this
theorem down_knots : ∀ (p : List Int) (ts u : List Tr), down ts p = some u → knotsOf u ≤ knotsOf ts
  | [], ts, u, h => by cases h; exact Nat.le_refl _
  | i :: p, ts, u, h => by
    rw [down] at h
    by_cases hi : i < 0
    · rw [if_pos hi] at h; cases h
    · rw [if_neg hi] at h
      cases e : ts[i.toNat]? with
      | none => rw [e] at h; cases h
      | some t =>
        rw [e] at h
        have h1 := down_knots p t.kids u h
        have h2 := knots_mem (List.mem_of_getElem? e)
        rw [knots_eq] at h2
        omega
end TT
set_option linter.all false
namespace TT
open PySem PySem.W PyProof.Rows

/-- a strict weak order on places -/
structure POrd (lt : Nat → Nat → Bool) : Prop where
  irr : ∀ a, lt a a = false
  tr : ∀ a b c, lt a b = true → lt b c = true → lt a c = true
  neg : ∀ a b c, lt a c = true → lt a b = true ∨ lt b c = true
abbrev ple (lt : Nat → Nat → Bool) (a b : Nat) : Prop := lt b a = false
section
variable {lt : Nat → Nat → Bool}
theorem POrd.rfl' (O : POrd lt) (a : Nat) : ple lt a a := O.irr a
theorem POrd.le_tr (O : POrd lt) {a b c : Nat} (h1 : ple lt a b) (h2 : ple lt b c) : ple lt a c := by
  unfold ple at *
  cases h : lt c a with
  | false => rfl
  | true =>
    rcases O.neg c b a h with q | q
    · rw [h2] at q; cases q
    · rw [h1] at q; cases q
theorem POrd.le_of (O : POrd lt) {a b : Nat} (h : lt a b = true) : ple lt a b := by
  unfold ple
  cases q : lt b a with
  | false => rfl
  | true => have := O.tr _ _ _ h q; rw [O.irr] at this; cases this
abbrev pat (p : Array Nat) (k : Nat) : Nat := p.getD k 0
def SortTo (lt : Nat → Nat → Bool) (p : Array Nat) (k : Nat) : Prop := ∀ i j, i ≤ j → j < k → ple lt (pat p i) (pat p j)
def FallTo (lt : Nat → Nat → Bool) (p : Array Nat) (k : Nat) : Prop := ∀ i j, i ≤ j → j < k → ple lt (pat p j) (pat p i)
def Same2 (lt : Nat → Nat → Bool) (a b : Nat) : Prop := ple lt a b ∧ ple lt b a
theorem pat_of {p q : Array Nat} {i j : Nat} (h : p[i]? = q[j]?) : pat p i = pat q j := by
  unfold pat
  rw [Array.getD_eq_getD_getElem?, Array.getD_eq_getD_getElem?, h]
theorem pat_rev {p : Array Nat} {i j : Nat} (hj : j ≤ p.size) (k : Nat) : pat (kas_rev p i j) k = if i ≤ k ∧ k < j then pat p (i + j - 1 - k) else pat p k := by
  have e := getElem?_mirror_all (xs := p) (i := i) hj k
  unfold kas_rev
  by_cases h : i ≤ k ∧ k < j
  · rw [if_pos h] at e ⊢; exact pat_of e
  · rw [if_neg h] at e ⊢; exact pat_of e
theorem pat_bub {p : Array Nat} {s d : Nat} (hs : s < p.size) (hd : d ≤ s) (k : Nat) : pat (bubble p s d) k = if k = s - d then pat p s else if s - d < k ∧ k ≤ s then pat p (k - 1) else pat p k := by
  have e := getElem?_bubble hs d hd k
  by_cases h1 : k = s - d
  · rw [if_pos h1] at e ⊢; exact pat_of e
  · rw [if_neg h1] at e ⊢
    by_cases h2 : s - d < k ∧ k ≤ s
    · rw [if_pos h2] at e ⊢; exact pat_of e
    · rw [if_neg h2] at e ⊢; exact pat_of e
/-- the places of p, whatever their order -/
def Pl (n : Nat) (p : Array Nat) : Prop := p.Perm (List.toArray (List.range n))
theorem Pl.size {n : Nat} {p : Array Nat} (h : Pl n p) : p.size = n := by
  have := Array.Perm.size_eq h
  simpa using this
theorem Pl.below {n : Nat} {p : Array Nat} (h : Pl n p) {k : Nat} (hk : k < n) : pat p k < n := by
  have hs := h.size
  have hm : p[k] ∈ p := Array.getElem_mem (by omega)
  have : p[k] ∈ List.toArray (List.range n) := (Array.Perm.mem_iff h).mp hm
  have e : pat p k = p[k] := by unfold pat; rw [Array.getD_eq_getD_getElem?]; simp [show k < p.size by omega]
  rw [e]
  simpa using this
theorem Pl.rev {n i j : Nat} {p : Array Nat} (h : Pl n p) : Pl n (kas_rev p i j) := (mirror_perm p i j _).trans h
theorem Pl.bub {n i d : Nat} {p : Array Nat} (h : Pl n p) : Pl n (bubble p i d) := (bubble_perm p i d).trans h

/-- what is known of the comparisons at the state s -/
def Cmps (lt : Nat → Nat → Bool) (n : Nat) (cmp : Nat → Nat → (Bool → Shared → Prop) → Shared → Prop) (s : Shared) : Prop :=
  ∀ i j C, i < n → j < n → C (lt i j) s → cmp i j C s
variable {cmp : Nat → Nat → (Bool → Shared → Prop) → Shared → Prop} {s : Shared} {n : Nat}
theorem sort_one (O : POrd lt) {p : Array Nat} {m : Nat} (hs : SortTo lt p m) (hm : 1 ≤ m) (h : lt (pat p m) (pat p (m - 1)) = false) : SortTo lt p (m + 1) := by
  intro i j hij hj
  by_cases e : j = m
  · subst e
    by_cases e2 : i = j
    · subst e2; exact O.rfl' _
    · exact O.le_tr (hs i (j - 1) (by omega) (by omega)) h
  · exact hs i j hij (by omega)
theorem fall_one (O : POrd lt) {p : Array Nat} {m : Nat} (hs : FallTo lt p m) (hm : 1 ≤ m) (h : ple lt (pat p m) (pat p (m - 1))) : FallTo lt p (m + 1) := by
  intro i j hij hj
  by_cases e : j = m
  · subst e
    by_cases e2 : i = j
    · subst e2; exact O.rfl' _
    · exact O.le_tr h (hs i (j - 1) (by omega) (by omega))
  · exact hs i j hij (by omega)
theorem asc_ok (O : POrd lt) (hc : Cmps lt n cmp s) {p : Array Nat} (hp : Pl n p) {Q : Nat → Shared → Prop} : ∀ (f m : Nat), 1 ≤ m → m + f ≤ n → SortTo lt p m →
    (∀ r, m ≤ r → r ≤ m + f → SortTo lt p r → (r = m + f ∨ lt (pat p r) (pat p (r - 1)) = true) → Q r s) → (kas_asc p f m).kasWp cmp Q s
  | 0, m, _, _, hs, k => k m (Nat.le_refl _) (Nat.le_refl _) hs (.inl rfl)
  | f + 1, m, h1, h2, hs, k => by
    refine hc _ _ _ (hp.below (by omega)) (hp.below (by omega)) ?_
    cases e : lt (p.getD m 0) (p.getD (m - 1) 0) with
    | true => exact k m (Nat.le_refl _) (by omega) hs (.inr e)
    | false =>
      show (kas_asc p f (m + 1)).kasWp cmp Q s
      exact asc_ok O hc hp f (m + 1) (by omega) (by omega) (sort_one O hs h1 e) fun r a b c d => k r (by omega) (by omega) c (d.elim (fun z => .inl (by omega)) .inr)
theorem fall_same (O : POrd lt) {p q : Array Nat} {m : Nat} (hs : FallTo lt p m) (h : ∀ k, k < m → Same2 lt (pat q k) (pat p k)) : FallTo lt q m := fun i j hij hj =>
  O.le_tr (h j hj).1 (O.le_tr (hs i j hij hj) (h i (by omega)).2)
/-- the last r + 1 of the first m are alike -/
def Alike (lt : Nat → Nat → Bool) (p : Array Nat) (m r : Nat) : Prop := ∀ k, m ≤ k + 1 + r → k < m → Same2 lt (pat p k) (pat p (m - 1))
theorem rev_alike (O : POrd lt) {p : Array Nat} {m r : Nat} (hm : m ≤ p.size) (ha : Alike lt p m r) (hr : r + 1 ≤ m) (k : Nat) : Same2 lt (pat (kas_rev p (m - (r + 1)) m) k) (pat p k) := by
  rw [pat_rev hm]
  by_cases h : m - (r + 1) ≤ k ∧ k < m
  · rw [if_pos h]
    have a := ha (m - (r + 1) + m - 1 - k) (by omega) (by omega)
    have b := ha k (by omega) h.2
    exact ⟨O.le_tr a.1 b.2, O.le_tr b.1 a.2⟩
  · rw [if_neg h]
    exact ⟨O.rfl' _, O.rfl' _⟩
theorem desc_ok (O : POrd lt) (hc : Cmps lt n cmp s) {Q : Array Nat × Nat × Nat → Shared → Prop} : ∀ (f : Nat) (p : Array Nat) (m r : Nat), Pl n p → r + 1 ≤ m → m + f ≤ n → FallTo lt p m → Alike lt p m r →
    (∀ p' m' r', Pl n p' → r' + 1 ≤ m' → m' ≤ n → FallTo lt p' m' → Alike lt p' m' r' → Q (p', m', r') s) → (kas_desc f p m r).kasWp cmp Q s
  | 0, p, m, r, hp, h1, h2, hf, ha, k => k p m r hp h1 (by omega) hf ha
  | f + 1, p, m, r, hp, h1, h2, hf, ha, k => by
    have hsz := hp.size
    refine hc _ _ _ (hp.below (by omega)) (hp.below (by omega)) ?_
    cases e : lt (p.getD m 0) (p.getD (m - 1) 0) with
    | true =>
      have one : ∀ q : Array Nat, Alike lt q (m + 1) 0 := fun q k a b => by
        have : k = m + 1 - 1 := by omega
        subst this
        exact ⟨O.rfl' _, O.rfl' _⟩
      have up := fall_one O hf (by omega) (O.le_of e)
      by_cases hr : r > 0
      · show (if r > 0 then kas_desc f (kas_rev p (m - (r + 1)) m) (m + 1) 0 else kas_desc f p (m + 1) 0).kasWp cmp Q s
        rw [if_pos hr]
        exact desc_ok O hc f _ (m + 1) 0 hp.rev (by omega) (by omega) (fall_same O up fun k _ => rev_alike O (by omega) ha h1 k) (one _) k
      · show (if r > 0 then kas_desc f (kas_rev p (m - (r + 1)) m) (m + 1) 0 else kas_desc f p (m + 1) 0).kasWp cmp Q s
        rw [if_neg hr]
        exact desc_ok O hc f _ (m + 1) 0 hp (by omega) (by omega) up (one _) k
    | false =>
      show (KasT.ask (p.getD (m - 1) 0) (p.getD m 0) fun d => if d = true then .ret (p, m, r) else kas_desc f p (m + 1) (r + 1)).kasWp cmp Q s
      refine hc _ _ _ (hp.below (by omega)) (hp.below (by omega)) ?_
      cases e2 : lt (p.getD (m - 1) 0) (p.getD m 0) with
      | true => exact k p m r hp h1 (by omega) hf ha
      | false =>
        refine desc_ok O hc f p (m + 1) (r + 1) hp (by omega) (by omega) (fall_one O hf (by omega) e2) (fun k a b => ?_) k
        have e3 : m + 1 - 1 = m := by omega
        rw [e3]
        by_cases hk : k = m
        · subst hk; exact ⟨O.rfl' _, O.rfl' _⟩
        · have q := ha k (by omega) (by omega)
          exact ⟨O.le_tr q.1 e, O.le_tr e2 q.2⟩
theorem sort_of_fall {p : Array Nat} {m : Nat} (hm : m ≤ p.size) (hf : FallTo lt p m) : SortTo lt (kas_rev p 0 m) m := by
  intro i j hij hj
  rw [pat_rev hm, pat_rev hm, if_pos ⟨Nat.zero_le _, by omega⟩, if_pos ⟨Nat.zero_le _, hj⟩]
  exact hf _ _ (by omega) (by omega)
theorem tail_ok (O : POrd lt) (hc : Cmps lt n cmp s) {p : Array Nat} {m : Nat} {Q : Nat × Array Nat → Shared → Prop} (hp : Pl n p) (h1 : 1 ≤ m) (h2 : m ≤ n) (hf : FallTo lt p m)
    (k : ∀ r q, Pl n q → 1 ≤ r → r ≤ n → SortTo lt q r → Q (r, q) s) : (kas_tail3 m n p).kasWp cmp Q s := by
  unfold kas_tail3
  rw [KasT.kasWp_bind]
  exact asc_ok O hc hp.rev _ _ h1 (by omega) (sort_of_fall (by rw [hp.size]; omega) hf) fun r a b c _ => k r _ hp.rev (by omega) (by omega) c
theorem descPart_ok (O : POrd lt) (hc : Cmps lt n cmp s) {p : Array Nat} {m : Nat} {Q : Nat × Array Nat → Shared → Prop} (hp : Pl n p) (h1 : 1 ≤ m) (h2 : m < n) (hf : FallTo lt p (m + 1))
    (k : ∀ r q, Pl n q → 1 ≤ r → r ≤ n → SortTo lt q r → Q (r, q) s) : (kas_descPart m n p).kasWp cmp Q s := by
  unfold kas_descPart
  rw [KasT.kasWp_bind]
  refine desc_ok O hc _ p (m + 1) 0 hp (by omega) (by omega) hf (fun k a b => ?_) fun p' m' r' hp' hr hm hf' ha' => ?_
  · have : k = m + 1 - 1 := by omega
    subst this
    exact ⟨O.rfl' _, O.rfl' _⟩
  · by_cases h : r' > 0
    · show (if r' > 0 then kas_tail3 m' n (kas_rev p' (m' - (r' + 1)) m') else kas_tail3 m' n p').kasWp cmp Q s
      rw [if_pos h]
      exact tail_ok O hc hp'.rev (by omega) hm (fall_same O hf' fun k _ => rev_alike O (by rw [hp'.size]; exact hm) ha' hr k) k
    · show (if r' > 0 then kas_tail3 m' n (kas_rev p' (m' - (r' + 1)) m') else kas_tail3 m' n p').kasWp cmp Q s
      rw [if_neg h]
      exact tail_ok O hc hp' (by omega) hm hf' k
theorem count_ok (O : POrd lt) (hc : Cmps lt n cmp s) {p : Array Nat} {Q : Nat × Array Nat → Shared → Prop} (hp : Pl n p) (h2 : 2 ≤ n) (k : ∀ r q, Pl n q → 1 ≤ r → r ≤ n → SortTo lt q r → Q (r, q) s) :
    (kas_count n p).kasWp cmp Q s := by
  unfold kas_count
  rw [KasT.kasWp_bind]
  have hsz := hp.size
  refine asc_ok O hc hp _ 1 (Nat.le_refl _) (by omega) (fun i j a b => ?_) fun r a b hs hstop => ?_
  · have e : i = j := by omega
    subst e; exact O.rfl' _
  · by_cases e : r = n
    · subst e
      rw [if_pos (by simp)]
      exact k r p hp a (Nat.le_refl _) hs
    · rw [if_neg (by simpa using e)]
      have hlt : lt (pat p r) (pat p (r - 1)) = true := by
        rcases hstop with z | z
        · omega
        · exact z
      by_cases h1 : r > 1
      · rw [if_pos h1]
        refine hc _ _ _ (hp.below (by omega)) (hp.below (by omega)) ?_
        cases e2 : lt (p.getD 0 0) (p.getD (r - 1) 0) with
        | true => exact k r p hp a (by omega) hs
        | false =>
          show (kas_descPart r n (kas_rev p 0 r)).kasWp cmp Q s
          have al : ∀ x, x < r → Same2 lt (pat p x) (pat p 0) := fun x hx => ⟨O.le_tr (hs x (r - 1) (by omega) (by omega)) e2, hs 0 x (by omega) hx⟩
          refine descPart_ok O hc hp.rev a (by omega) (fun i j hij hj => ?_) k
          have v : ∀ x, x < r → Same2 lt (pat (kas_rev p 0 r) x) (pat p 0) := fun x hx => by
            rw [pat_rev (by omega), if_pos ⟨Nat.zero_le _, hx⟩]
            exact al _ (by omega)
          by_cases ej : j = r
          · subst ej
            have er : pat (kas_rev p 0 j) j = pat p j := by rw [pat_rev (by omega), if_neg (by omega)]
            by_cases ei : i = j
            · subst ei; exact O.rfl' _
            · rw [er]
              exact O.le_tr (O.le_of hlt) (O.le_tr (al (j - 1) (by omega)).1 (v i (by omega)).2)
          · exact O.le_tr (v j (by omega)).1 (v i (by omega)).2
      · rw [if_neg h1]
        have e1 : r = 1 := by omega
        subst e1
        refine descPart_ok O hc hp (Nat.le_refl _) (by omega) (fun i j hij hj => ?_) k
        by_cases ej : i = j
        · subst ej; exact O.rfl' _
        · have e3 : i = 0 := by omega
          have e4 : j = 1 := by omega
          subst e3 e4
          exact O.le_of hlt
theorem place_ok (O : POrd lt) (hc : Cmps lt n cmp s) {p : Array Nat} (hp : Pl n p) {c : Nat} (hcn : c < n) (hs : SortTo lt p c) {Q : Nat → Shared → Prop} : ∀ (f l r : Nat), l ≤ r → r ≤ c → r - l ≤ f → (∀ i, i < l → ple lt (pat p i) (pat p c)) → (∀ i, r ≤ i → i < c → ple lt (pat p c) (pat p i)) →
    (∀ l, l ≤ c → (∀ i, i < l → ple lt (pat p i) (pat p c)) → (∀ i, l ≤ i → i < c → ple lt (pat p c) (pat p i)) → Q l s) → (kas_place p c f l r).kasWp cmp Q s
  | 0, l, r, h1, h2, h3, a, b, k => k l (by omega) a fun i hi hc' => b i (by omega) hc'
  | f + 1, l, r, h1, h2, h3, a, b, k => by
    by_cases h : l ≥ r
    · show (if l ≥ r then KasT.ret l else _).kasWp cmp Q s
      rw [if_pos h]
      exact k l (by omega) a fun i hi hc' => b i (by omega) hc'
    · show (if l ≥ r then KasT.ret l else KasT.ask (p.getD c 0) (p.getD ((l + r) / 2) 0) fun d => if d = true then kas_place p c f l ((l + r) / 2) else kas_place p c f ((l + r) / 2 + 1) r).kasWp cmp Q s
      rw [if_neg h]
      refine hc _ _ _ (hp.below hcn) (hp.below (by omega)) ?_
      cases e : lt (p.getD c 0) (p.getD ((l + r) / 2) 0) with
      | true => exact place_ok O hc hp hcn hs f l _ (by omega) (by omega) (by omega) a (fun i hi hic => O.le_tr (O.le_of e) (hs _ i hi hic)) k
      | false => exact place_ok O hc hp hcn hs f _ r (by omega) (by omega) (by omega) (fun i hi => O.le_tr (hs i ((l + r) / 2) (by omega) (by omega)) e) b k
theorem sort_ins (O : POrd lt) {p : Array Nat} {c l : Nat} (hc : c < p.size) (hs : SortTo lt p c) (hl : l ≤ c) (a : ∀ i, i < l → ple lt (pat p i) (pat p c)) (b : ∀ i, l ≤ i → i < c → ple lt (pat p c) (pat p i)) : SortTo lt (bubble p c (c - l)) (c + 1) := by
  intro i j hij hj
  have e0 : c - (c - l) = l := by omega
  rw [pat_bub hc (by omega), pat_bub hc (by omega), e0]
  by_cases h1 : i = l
  · rw [if_pos h1]
    by_cases h2 : j = l
    · rw [if_pos h2]; exact O.rfl' _
    · rw [if_neg h2, if_pos ⟨by omega, by omega⟩]; exact b _ (by omega) (by omega)
  · rw [if_neg h1]
    by_cases h3 : l < i ∧ i ≤ c
    · rw [if_pos h3, if_neg (by omega), if_pos ⟨by omega, by omega⟩]
      exact hs _ _ (by omega) (by omega)
    · rw [if_neg h3]
      by_cases h2 : j = l
      · rw [if_pos h2]; exact a i (by omega)
      · rw [if_neg h2]
        by_cases h4 : l < j ∧ j ≤ c
        · rw [if_pos h4]; exact hs _ _ (by omega) (by omega)
        · rw [if_neg h4]; exact hs _ _ hij (by omega)
theorem bin_ok (O : POrd lt) (hc : Cmps lt n cmp s) {Q : Array Nat → Shared → Prop} : ∀ (f : Nat) (p : Array Nat) (c : Nat), Pl n p → c + f = n → SortTo lt p c → (∀ q, Pl n q → SortTo lt q n → Q q s) → (kas_bin f p c).kasWp cmp Q s
  | 0, p, c, hp, h, hs, k => k p hp (by rw [show n = c by omega]; exact hs)
  | f + 1, p, c, hp, h, hs, k => by
    show ((kas_place p c c 0 c).bind fun l => kas_bin f (bubble p c (c - l)) (c + 1)).kasWp cmp Q s
    rw [KasT.kasWp_bind]
    refine place_ok O hc hp (by omega) hs c 0 c (Nat.zero_le _) (Nat.le_refl _) (by omega) (fun i hi => absurd hi (by omega)) (fun i h1 h2 => absurd h1 (by omega)) fun l hl a b => ?_
    exact bin_ok O hc f _ (c + 1) hp.bub (by omega) (sort_ins O (by rw [hp.size]; omega) hs hl a b) k
theorem kas_sort_ok (O : POrd lt) (hc : Cmps lt n cmp s) (h2 : 2 ≤ n) {Q : Array Nat → Shared → Prop} (k : ∀ q, Pl n q → SortTo lt q n → Q q s) : (kas_sort n).kasWp cmp Q s := by
  unfold kas_sort
  rw [KasT.kasWp_bind]
  refine count_ok O hc (Array.Perm.refl _) h2 fun r q hq h1 hr hs => ?_
  have em : max r 1 = r := by omega
  by_cases h : r < n
  · show (if r < n then kas_bin (n - max r 1) q (max r 1) else .ret q).kasWp cmp Q s
    rw [if_pos h, em]
    exact bin_ok O hc _ q r hq (by omega) hs k
  · show (if r < n then kas_bin (n - max r 1) q (max r 1) else .ret q).kasWp cmp Q s
    rw [if_neg h]
    exact k q hq (by rw [show n = r by omega]; exact hs)
end
end TT
namespace TT
open PySem L2

/-! ### data, and how a heap bears it -/
inductive D where
  | int (i : Int) | str (x : Str) | bl (b : Bool) | non | lst (xs : List D) | tup (xs : List D)
mutual
def D.size : D → Nat
  | .lst xs => 1 + sizes xs
  | .tup xs => 1 + sizes xs
  | .int _ => 1
  | .str _ => 1
  | .bl _ => 1
  | .non => 1
def sizes : List D → Nat
  | [] => 0
  | d :: ds => d.size + sizes ds
end
theorem size_pos (d : D) : 1 ≤ d.size := by cases d <;> simp [D.size]
theorem sizes_append : ∀ a b : List D, sizes (a ++ b) = sizes a + sizes b
  | [], b => by simp [sizes]
  | d :: a, b => by rw [List.cons_append, sizes, sizes, sizes_append a b]; omega
theorem length_le_sizes : ∀ ds : List D, ds.length ≤ sizes ds
  | [] => Nat.le_refl _
  | d :: ds => by have := length_le_sizes ds; have := size_pos d; rw [List.length_cons, sizes]; omega
mutual
inductive Rep (G : Hp) : V → D → Prop
  | int (i : Int) : Rep G (.int i) (.int i)
  | str (x : Str) : Rep G (.str x) (.str x)
  | bl (b : Bool) : Rep G (.bl b) (.bl b)
  | non : Rep G .non .non
  | lst {a : Addr} {vs : List V} {ds : List D} (h : G a = some (.lst vs)) (r : Reps G vs ds) : Rep G (.ref a) (.lst ds)
  | tup {a : Addr} {vs : List V} {ds : List D} (h : G a = some (.tup vs)) (r : Reps G vs ds) : Rep G (.ref a) (.tup ds)
inductive Reps (G : Hp) : List V → List D → Prop
  | nil : Reps G [] []
  | cons {v : V} {vs : List V} {d : D} {ds : List D} (r : Rep G v d) (t : Reps G vs ds) : Reps G (v :: vs) (d :: ds)
end
mutual
theorem Rep.mono {G G' : Hp} (e : Same G G') : ∀ {v : V} {d : D}, Rep G v d → Rep G' v d
  | _, _, .int i => .int i
  | _, _, .str x => .str x
  | _, _, .bl b => .bl b
  | _, _, .non => .non
  | _, _, .lst h r => .lst (e _ _ h) (Reps.mono e r)
  | _, _, .tup h r => .tup (e _ _ h) (Reps.mono e r)
theorem Reps.mono {G G' : Hp} (e : Same G G') : ∀ {vs : List V} {ds : List D}, Reps G vs ds → Reps G' vs ds
  | _, _, .nil => .nil
  | _, _, .cons r t => .cons (Rep.mono e r) (Reps.mono e t)
end
section
variable {G : Hp}
theorem Reps.length : ∀ {vs : List V} {ds : List D}, Reps G vs ds → vs.length = ds.length
  | _, _, .nil => rfl
  | _, _, .cons _ t => by rw [List.length_cons, List.length_cons, Reps.length t]
theorem Reps.append : ∀ {vs ws : List V} {ds es : List D}, Reps G vs ds → Reps G ws es → Reps G (vs ++ ws) (ds ++ es)
  | _, _, _, _, .nil, s => s
  | _, _, _, _, .cons r t, s => .cons r (Reps.append t s)
theorem Reps.take : ∀ {vs : List V} {ds : List D} (n : Nat), Reps G vs ds → Reps G (vs.take n) (ds.take n)
  | _, _, 0, _ => .nil
  | _, _, _ + 1, .nil => .nil
  | _, _, n + 1, .cons r t => .cons r (Reps.take n t)
theorem Reps.drop : ∀ {vs : List V} {ds : List D} (n : Nat), Reps G vs ds → Reps G (vs.drop n) (ds.drop n)
  | _, _, 0, r => r
  | _, _, _ + 1, .nil => .nil
  | _, _, n + 1, .cons _ t => Reps.drop n t
theorem Reps.get : ∀ {vs : List V} {ds : List D} {i : Nat} {d : D}, Reps G vs ds → ds[i]? = some d → ∃ v, vs[i]? = some v ∧ Rep G v d
  | _, _, _, _, .nil, e => by simp at e
  | _, _, 0, _, .cons r _, e => by simp at e; subst e; exact ⟨_, rfl, r⟩
  | _, _, i + 1, d, .cons _ t, e => by
    obtain ⟨v, h1, h2⟩ := Reps.get (i := i) (d := d) t (by simpa using e)
    exact ⟨v, by simpa using h1, h2⟩
theorem Reps.at : ∀ {vs : List V} {ds : List D} {i : Nat} {v : V}, Reps G vs ds → vs[i]? = some v → ∃ d, ds[i]? = some d ∧ Rep G v d
  | _, _, _, _, .nil, e => by simp at e
  | _, _, 0, _, .cons r _, e => by simp at e; subst e; exact ⟨_, rfl, r⟩
  | _, _, i + 1, d, .cons _ t, e => by
    obtain ⟨v, h1, h2⟩ := Reps.at (i := i) (v := d) t (by simpa using e)
    exact ⟨v, by simpa using h1, h2⟩
theorem Reps.rep {v : V} {d : D} (r : Rep G v d) : ∀ n : Nat, Reps G (List.replicate n v) (List.replicate n d)
  | 0 => .nil
  | n + 1 => by rw [List.replicate_succ, List.replicate_succ]; exact .cons r (Reps.rep r n)
theorem reps_ints : ∀ {vs : List V} {p : List Int}, Reps G vs (p.map D.int) → vs = p.map V.int
  | _, [], .nil => rfl
  | _, i :: p, .cons (.int _) t => by rw [List.map_cons, reps_ints t]
theorem ints_reps : ∀ (p : List Int), Reps G (p.map V.int) (p.map D.int)
  | [] => .nil
  | i :: p => .cons (.int i) (ints_reps p)
end

/-! ### trees as data -/
mutual
def Tr.d : Tr → D
  | .node m ks => .tup (.str m :: dOf ks)
def dOf : List Tr → List D
  | [] => []
  | t :: ts => t.d :: dOf ts
end
theorem dOf_map : ∀ ts : List Tr, dOf ts = ts.map Tr.d
  | [] => rfl
  | t :: ts => by rw [dOf, dOf_map ts, List.map_cons]
theorem tree_d (t : Tr) : t.d = .tup (.str t.mark :: t.kids.map Tr.d) := by cases t; rw [Tr.d, dOf_map]; rfl
mutual
theorem Tr.d_size : ∀ t : Tr, t.d.size = 2 * t.knots
  | .node m ks => by rw [Tr.d, D.size, sizes, D.size, dOf_size ks, Tr.knots]; omega
theorem dOf_size : ∀ ts : List Tr, sizes (dOf ts) = 2 * knotsOf ts
  | [] => rfl
  | t :: ts => by rw [dOf, sizes, Tr.d_size t, dOf_size ts, knotsOf]; omega
end
def rowD (ts : List Tr) : D := .lst (ts.map Tr.d)
theorem rowD_size (ts : List Tr) : (rowD ts).size = 1 + 2 * knotsOf ts := by rw [rowD, D.size, ← dOf_map, dOf_size]
def pathD (p : List Int) : D := .lst (p.map D.int)
theorem sizes_ints : ∀ p : List Int, sizes (p.map D.int) = p.length
  | [] => rfl
  | i :: p => by rw [List.map_cons, sizes, sizes_ints p, List.length_cons, D.size]; omega
theorem pathD_size (p : List Int) : (pathD p).size = 1 + p.length := by rw [pathD, D.size, sizes_ints]
section
variable {G : Hp}
theorem Rep.row {v : V} {ts : List Tr} (r : Rep G v (rowD ts)) : ∃ a vs, v = .ref a ∧ G a = some (.lst vs) ∧ Reps G vs (ts.map Tr.d) := by
  cases r with
  | lst h t => exact ⟨_, _, rfl, h, t⟩
theorem Rep.tree {v : V} {t : Tr} (r : Rep G v t.d) : ∃ a vs, v = .ref a ∧ G a = some (.tup (.str t.mark :: vs)) ∧ Reps G vs (t.kids.map Tr.d) := by
  rw [tree_d] at r
  cases r with
  | tup h t =>
    cases t with
    | cons r t =>
      cases r
      exact ⟨_, _, rfl, h, t⟩
theorem Rep.path {v : V} {p : List Int} (r : Rep G v (pathD p)) : ∃ a, v = .ref a ∧ G a = some (.lst (p.map V.int)) := by
  cases r with
  | lst h t =>
    have e := reps_ints t
    subst e
    exact ⟨_, rfl, h⟩
end

/-! ### what is frozen (G) of what stands (H), and how both grow -/
structure Ext (G H G' H' : Hp) : Prop where
  g : Same G G'
  gh : Same G' H'
  h : Same H H'
  new : ∀ a o, H a = some o → G' a = G a
section
variable {G H G1 H1 G2 H2 : Hp} {p : Addr} {o : HO}
theorem Ext.refl (s : Same G H) : Ext G H G H := ⟨Same.refl G, s, Same.refl H, fun _ _ _ => rfl⟩
theorem Ext.trans (a : Ext G H G1 H1) (b : Ext G1 H1 G2 H2) : Ext G H G2 H2 :=
  ⟨a.g.trans b.g, b.gh, a.h.trans b.h, fun c u e => (b.new c u (a.h c u e)).trans (a.new c u e)⟩
theorem same_upd (n : H p = none) : Same H (upd H p o) := fun b u e => by
  rw [upd_ne (ne_of_none e n)]; exact e
theorem Ext.add (s : Same G H) (n : H p = none) : Ext G H (upd G p o) (upd H p o) := by
  have ng : G p = none := by
    cases e : G p with
    | none => rfl
    | some u => rw [s p u e] at n; cases n
  refine ⟨same_upd ng, fun b u e => ?_, same_upd n, fun b u e => ?_⟩
  · by_cases hb : b = p
    · subst hb; rw [upd_same] at e ⊢; exact e
    · rw [upd_ne hb] at e ⊢; exact s b u e
  · exact upd_ne (ne_of_none e n)
theorem Ext.keep (x : Ext G H G1 H1) {a : Addr} {u : HO} (h : H a = some u) (n : G a = none) : G1 a = none := (x.new a u h).trans n
/-- a list that is not frozen is changed -/
theorem same_mut {a : Addr} (s : Same G H) (n : G a = none) : Same G (upd H a o) := fun b u e => by
  rw [upd_ne (ne_of_none e n)]; exact s b u e
/-- something new that is not frozen -/
theorem _root_.L2.Same.none {a : Addr} (s : Same G H) (n : H a = Option.none) : G a = Option.none := by
  cases e : G a with
  | none => rfl
  | some u => rw [s a u e] at n; cases n
end
end TT
namespace TT
open PySem PySem.Spec PyProof.Rows L2

/-! ### the order of two lists of ints, as the machine asks it -/
section
open PySem.SeqAt PySem.MeetsSeq PySem.MeetsSeq2 PySem.MeetsSeq3 HT
open PySem.AutoSeq1 (wpAny_loadPart')
theorem ints_at {us : List Value} {ns : List Int} (h : IntsAre us ns) : ∀ {i : Nat} {k : Int}, ns[i]? = some k → ∃ t, us[i]? = some (.int k t) := by
  induction h with
  | nil => intro i k e; simp at e
  | cons a t _ ih =>
    intro i k e
    cases i with
    | zero => simp at e; subst e; exact ⟨t, rfl⟩
    | succ i => obtain ⟨u, hu⟩ := ih (i := i) (k := k) (by simpa using e); exact ⟨u, by simpa using hu⟩
set_option maxHeartbeats 1000000 in
theorem less_loop (l b : Addr) (xs ys : Array Value) (c1 c2 : Nat) (d1 d2 : Option Addr) (s1 s2 : Array (Option Value)) (ns ms : List Int) (hi : IntsAre xs.toList ns) (hj : IntsAre ys.toList ms) (k : Nat) :
    ∀ i : Nat, xs.size - i = k → i ≤ xs.size → i ≤ ys.size → Meets (Builtin.«list.__eq__.loop» ⟨[.ref l, .ref b, rawInt i, rawInt 0], []⟩)
      (fun _ R s => s.heap.get? l = some ⟨.type "list", d1, .seq xs c1, s1⟩ ∧ s.heap.get? b = some ⟨.type "list", d2, .seq ys c2, s2⟩ ∧ R (.ok (.ret (.bool (HT.lexLt (ns.drop i) (ms.drop i))))) s) := by
  have z1 : xs.size = ns.length := by rw [← hi.length]; simp
  have z2 : ys.size = ms.length := by rw [← hj.length]; simp
  induction k with
  | zero =>
    intro i hk h1 h2 prog w A R s h
    obtain ⟨hp, g, d, tk, os⟩ := s
    obtain ⟨ha, hb, h⟩ := h
    wp_walk using wpAny_loadPart' ha, wpAny_loadPart' hb
    have e1 : xs[((i : Nat) : Int).toNat]? = none := by simp; omega
    have en : ns.drop i = [] := List.drop_of_length_le (by omega)
    rw [en] at h
    by_cases hy : i < ys.size
    · have e2 : ys[((i : Nat) : Int).toNat]? = some ys[i] := by simp [hy]
      rw [e1, e2]
      wp_walk using wpAny_loadPart' ha, wpAny_loadPart' hb
      show R (.ok (.ret (.bool (decide (xs.size < ys.size))))) _
      have em : HT.lexLt [] (ms.drop i) = decide (xs.size < ys.size) := by
        rw [List.drop_eq_getElem_cons (show i < ms.length by omega)]
        exact (decide_eq_true (by omega)).symm
      rw [← em]
      exact h
    · have e2 : ys[((i : Nat) : Int).toNat]? = none := by simp; omega
      rw [e1, e2]
      wp_walk using wpAny_loadPart' ha, wpAny_loadPart' hb
      show R (.ok (.ret (.bool (decide (xs.size < ys.size))))) _
      have em : HT.lexLt [] (ms.drop i) = decide (xs.size < ys.size) := by
        rw [List.drop_of_length_le (show ms.length ≤ i by omega)]
        exact (decide_eq_false (by omega)).symm
      rw [← em]
      exact h
  | succ k ih =>
    intro i hk h1 h2 prog w A R s h
    obtain ⟨hp, g, d, tk, os⟩ := s
    obtain ⟨ha, hb, h⟩ := h
    wp_walk using wpAny_loadPart' ha, wpAny_loadPart' hb
    have hx : i < xs.size := by omega
    have hxn : i < ns.length := by omega
    obtain ⟨ta, ea⟩ := ints_at hi (i := i) (k := ns[i]) (by simp [hxn])
    have e1 : xs[((i : Nat) : Int).toNat]? = some (.int ns[i] ta) := by rw [Int.toNat_natCast, ← Array.getElem?_toList]; exact ea
    by_cases hy : i < ys.size
    · have hyn : i < ms.length := by omega
      obtain ⟨tc, ec⟩ := ints_at hj (i := i) (k := ms[i]) (by simp [hyn])
      have e2 : ys[((i : Nat) : Int).toNat]? = some (.int ms[i] tc) := by rw [Int.toNat_natCast, ← Array.getElem?_toList]; exact ec
      rw [e1, e2]
      have hd : HT.lexLt (ns.drop i) (ms.drop i) = if ns[i] = ms[i] then HT.lexLt (ns.drop (i + 1)) (ms.drop (i + 1)) else decide (ns[i] < ms[i]) := by
        rw [List.drop_eq_getElem_cons hxn, List.drop_eq_getElem_cons hyn]
        all_goals rfl
      rw [hd] at h
      have hc : ((i : Int) + 1) = ((i + 1 : Nat) : Int) := by push_cast; rfl
      obtain ⟨e, he, hiff⟩ := eqAt_int A.in1 ⟨hp, g, d, tk, os⟩ ns[i] ta ms[i] tc
      refine wpAny_bind (he prog w _ _ ?_)
      cases e with
      | true =>
        rw [if_pos (hiff.mp rfl)] at h
        wp_walk
        rw [hc]
        exact ⟨plainId_quiet plain_eq_loop _, codeAny_builtin entry_eq_loop (by
          rw [Around.under_plainId plain_eq_loop _]
          exact ih (i + 1) (by omega) (by omega) (by omega) prog w A R _ ⟨ha, hb, h⟩)⟩
      | false =>
        rw [if_neg (fun q => absurd (hiff.mpr q) Bool.false_ne_true)] at h
        have hri := rcLt_int A.in1 ⟨hp, g, d, tk, os⟩ ns[i] ta ms[i] tc prog w
        wp_walk using wpAny_loadPart' ha, wpAny_loadPart' hb
        rw [e1, e2]
        wp_walk using hri
        exact h
    · have e2 : ys[((i : Nat) : Int).toNat]? = none := by simp; omega
      rw [e1, e2]
      wp_walk using wpAny_loadPart' ha, wpAny_loadPart' hb
      show R (.ok (.ret (.bool (decide (xs.size < ys.size))))) _
      have em : HT.lexLt (ns.drop i) (ms.drop i) = decide (xs.size < ys.size) := by
        rw [List.drop_of_length_le (show ms.length ≤ i by omega), List.drop_eq_getElem_cons hxn]
        exact (decide_eq_false (by omega)).symm
      rw [← em]
      exact h
theorem less_ints (l b : Addr) (xs ys : Array Value) (c1 c2 : Nat) (d1 d2 : Option Addr) (s1 s2 : Array (Option Value)) (ns ms : List Int) (hi : IntsAre xs.toList ns) (hj : IntsAre ys.toList ms) :
    Meets (Builtin.«list.__lt__» ⟨[.ref l, .ref b], []⟩)
      (fun _ R s => s.heap.get? l = some ⟨.type "list", d1, .seq xs c1, s1⟩ ∧ s.heap.get? b = some ⟨.type "list", d2, .seq ys c2, s2⟩ ∧ R (.ok (.ret (.bool (HT.lexLt ns ms)))) s) := by
  intro prog w A R s h
  obtain ⟨hp, g, d, tk, os⟩ := s
  obtain ⟨ha, hb, h⟩ := h
  have f3 := AutoSeq1.sub_list_list
  wp_walk using wpAny_loadPart' ha, wpAny_loadPart' hb
  exact ⟨plainId_quiet plain_eq_loop _, codeAny_builtin entry_eq_loop (by
    rw [Around.under_plainId plain_eq_loop _]
    exact less_loop l b xs ys c1 c2 d1 d2 s1 s2 ns ms hi hj _ 0 rfl (Nat.zero_le _) (Nat.zero_le _) prog w A R _ ⟨ha, hb, by simpa using h⟩)⟩
theorem sortLt_list {prog : Program} {w : World} {A : Around} {E : Value → Shared → Prop} {s : Shared} {l b : Addr} {xs ys : Array Value} {ns ms : List Int} {Q : Bool → Shared → Prop} (hl : s.heap.IsList l xs) (hb : s.heap.IsList b ys)
    (hi : IntsAre xs.toList ns) (hj : IntsAre ys.toList ms) (hu : A.units < cLine) (h : Q (HT.lexLt ns ms) s) : wpAny (model prog w) A (oneLt' true (.ref l) (.ref b)) Q E s := by
  obtain ⟨⟨c1, d1, dt1, sl1⟩, ho, hc, n, hd⟩ := id hl
  obtain ⟨⟨c2, d2, dt2, sl2⟩, ho2, hc2, n2, hd2⟩ := id hb
  simp only at hc hd hc2 hd2
  subst hc hd hc2 hd2
  rw [oneLt'_eq]
  simp only [if_true]
  refine wpAny_bind (wpAny_cRoomFor hu ?_)
  refine wpAny_bind (wpAny_callSpecialIfBound?_slot (T := "list") ⟨_, ho, rfl⟩ PySem.F.slot_list_lt (call_meets PySem.F.slot_list_lt ⟨_, ho, rfl⟩ PySem.F.entry_list_lt (PySem.F.args_list_lt_2 _ _) (less_ints l b xs ys n n2 d1 d2 sl1 sl2 ns ms hi hj) ⟨ho, ho2, ?_⟩))
  exact wpAny_truthy_bool h
end

/-! ### sorted of one item or none -/
section
variable {prog : Program} {w : World} {A : Around} {E : Value → Shared → Prop} {s : Shared}
theorem sort_short {a : Addr} {us : List Value} {n : Nat} {P : PySem.Fin → Shared → Prop} (ho : s.heap.get? a = some (seqObj "list" us.toArray n)) (h2 : us.length < 2)
    (h : ∀ h' c, (∀ b o, b ≠ a → s.heap.get? b = some o → h'.get? b = some o) → h'.get? a = some (seqObj "list" us.toArray c) → P (.done (.ret .none)) { s with heap := h' }) :
    wpAny (model prog w) A (Builtin.«list.sort» ⟨[.ref a], []⟩) P E s := by
  have small : us.length ≤ sizeLine := by rw [sizeLine_eq]; omega
  have hlt : a < s.heap.objs.size := Heap.lt_size ho
  rw [list_sort_plain]
  refine wpAny_bind (listItems_at ho rfl ?_)
  refine wpAny_bind (listUpdate_at ho rfl ?_ (by rw [List.size_toArray]; exact small) (Nat.zero_le _))
  obtain ⟨k1, hk1⟩ : ∃ k1, (s.heap.update a (Obj.mapSeq fun _ => (#[] : Array Value))).get? a = some (seqObj "list" #[] k1) := ⟨_, get?_update_seq ho fun _ => #[]⟩
  refine wpAny_bind (seqEpoch_at hk1 rfl ?_)
  refine wpAny_bind (wpAny_newTuple ?_ (by show us.length ≤ _; exact small))
  refine wpAny_bind (wpAny_newList ?_ (Nat.zero_le _))
  refine wpAny_holding ?_
  have hk2 : (((s.heap.update a (Obj.mapSeq fun _ => (#[] : Array Value))).push (seqObj "tuple" us.toArray 0)).push (seqObj "list" #[] 0)).get? a = some (seqObj "list" #[] k1) := Heap.get?_push_of_some _ (Heap.get?_push_of_some _ hk1)
  show wpAny (model prog w) A _ P E { s with heap := ((s.heap.update a (Obj.mapSeq fun _ => (#[] : Array Value))).push (seqObj "tuple" us.toArray 0)).push (seqObj "list" #[] 0) }
  dsimp only
  have hs : us.toArray.size < 2 := by rw [List.size_toArray]; exact h2
  rw [if_pos hs, if_pos hs]
  refine wpAny_bind (wpAny_pure ?_)
  rw [StateT.run_pure]
  refine wpAny_bind (wpAny_pure ?_)
  dsimp only
  have eo : (arrOf (SortSt.mk' general' (us.toArray.zip us.toArray) #[] 7 none)).map (·.2) = us.toArray := by
    show (us.toArray.zip us.toArray).map (·.2) = us.toArray
    apply Array.toList_inj.mp
    simp only [Array.toList_map, Array.toList_zip]
    exact List.map_snd_zip (Nat.le_refl _)
  rw [eo]
  refine wpAny_bind (seqEpoch_at hk2 rfl ?_)
  refine wpAny_bind (listUpdate_at hk2 rfl ?_ (Nat.zero_le _) (by show us.length ≤ _; omega))
  simp only [bne_self_eq_false, Bool.false_eq_true, if_false]
  obtain ⟨k3, hk3⟩ : ∃ k3, ((((s.heap.update a (Obj.mapSeq fun _ => (#[] : Array Value))).push (seqObj "tuple" us.toArray 0)).push (seqObj "list" #[] 0)).update a (Obj.mapSeq fun _ => us.toArray)).get? a = some (seqObj "list" us.toArray k3) :=
    ⟨_, get?_update_seq hk2 fun _ => us.toArray⟩
  refine wpAny_pure (h _ k3 (fun b o hb e => ?_) hk3)
  rw [Heap.get?_update_other _ _ (Ne.symm hb)]
  exact Heap.get?_push_of_some _ (Heap.get?_push_of_some _ ((Heap.get?_update_other _ _ (Ne.symm hb)).trans e))
theorem sorted_short {l : Addr} {us : List Value} {Q : Value → Shared → Prop} (hl : s.heap.IsList l us.toArray) (h2 : us.length < 2)
    (h : ∀ p h' c, s.heap.objs.size ≤ p → (∀ b o, s.heap.get? b = some o → h'.get? b = some o) → h'.get? p = some (seqObj "list" us.toArray c) → Q (.ref p) { s with heap := h' }) :
    wpAny (model prog w) A (call (.builtin "sorted") [.ref l]) Q E s := by
  have small : us.toArray.size ≤ sizeLine := by rw [List.size_toArray, sizeLine_eq]; omega
  refine Calls.call_function_entry kind_sorted plain_sorted entry_sorted (args_sorted1 _) ?_
  unfold Builtin.«sorted»
  refine wpAny_bind (m := checkCount "sorted" 1 1 _) (wpAny_pure ?_)
  refine wpAny_bind (collect_list hl ?_ small)
  refine wpAny_bind (wpAny_newList ?_ (by rw [← List.size_toArray]; exact small))
  have z : ((s.heap.push (seqObj "list" #[] 0)).update s.heap.objs.size (Obj.mapSeq (· ++ us.toArray))).objs.size = s.heap.objs.size + 1 := by rw [Heap.size_update, size_push']
  have at1 : (((s.heap.push (seqObj "list" #[] 0)).update s.heap.objs.size (Obj.mapSeq (· ++ us.toArray))).push (seqObj "list" us.toArray 0)).get? (s.heap.objs.size + 1) = some (seqObj "list" us.toArray 0) := by
    rw [← z]; exact Heap.get?_push_size _ rfl
  have old : ∀ b o, s.heap.get? b = some o → (((s.heap.push (seqObj "list" #[] 0)).update s.heap.objs.size (Obj.mapSeq (· ++ us.toArray))).push (seqObj "list" us.toArray 0)).get? b = some o := fun b o q => by
    have hb := Heap.lt_size q
    refine Heap.get?_push_of_some _ ?_
    rw [Heap.get?_update_other _ _ (Nat.ne_of_gt hb)]
    exact Heap.get?_push_of_some _ q
  show wpAny _ _ _ _ _ { s with heap := ((s.heap.push (seqObj "list" #[] 0)).update s.heap.objs.size (Obj.mapSeq (· ++ us.toArray))).push (seqObj "list" us.toArray 0) }
  rw [z]
  refine wpAny_bind (wpAny_holding (wpAny_call_entry slot_list_sort ⟨_, at1, rfl⟩ entry_list_sort ?body (args_list_sort _)))
  case body =>
    refine sort_short (s := { s with heap := ((s.heap.push (seqObj "list" #[] 0)).update s.heap.objs.size (Obj.mapSeq (· ++ us.toArray))).push (seqObj "list" us.toArray 0) }) at1 h2 fun h' c kp e => ⟨_, rfl, ?_⟩
    refine wpAny_pure ⟨_, rfl, h _ h' c (Nat.le_succ _) (fun b o q => kp b o ?_ (old b o q)) e⟩
    exact Nat.ne_of_lt (Nat.lt_succ_of_lt (Heap.lt_size q))
end

/-! ### what was laid while records turned -/
theorem ns_one {h : Heap} {a : Addr} {m m' : Str → Option Value} (x : h.Ns a m) (y : h.Ns a m') : m = m' := by
  obtain ⟨o, es, ep, ho, hd, _, hm⟩ := x
  obtain ⟨o', es', ep', ho', hd', _, hm'⟩ := y
  rw [ho] at ho'
  cases ho'
  rw [hd] at hd'
  cases hd'
  funext z
  rw [← hm z, ← hm' z]
section
variable {X : Cx} {pins : List (Addr × Obj)} {σ : L2.St} {H : Hp} {s : Shared} {h' : Heap}
/-- records of fp have turned, and one new object is tracked -/
theorem turnNew {t' : Nat} {fp : List Addr} {p : Addr} {o : HO} (I : Inv X pins σ H s) (hf : ∀ b ∈ fp, FpOk X pins H b) (k : ∀ b u, b ∉ fp → s.heap.get? b = some u → h'.get? b = some u) (hp : s.heap.objs.size ≤ p)
    (new : ObjOk X.prog X.w (upd H p o) h' p o) : Inv X pins σ (upd H p o) { s with heap := h', toks := t' } := by
  have hn : H p = none := I.hok.fresh hp
  have np : ∀ b u, s.heap.get? b = some u → b ≠ p := fun b u e => Nat.ne_of_lt (Nat.lt_of_lt_of_le (Heap.lt_size e) hp)
  have nt : ∀ b u, H b = some u → b ∉ fp := fun b u e z => by rw [(hf b z).1] at e; cases e
  refine I.step (g' := s.gens) (d' := s.drawn) (ch := fp) (fun b hb => ?_) (fun b ob _ _ hc e _ => k b ob hc e) (fun b ob _ _ hc e _ => ⟨ob.slots, k b ob hc e⟩) (fun b ob _ e n => by rw [upd_ne (np b ob e)]; exact n)
    (fun b ob hc e => ⟨ob, k b ob hc e⟩) (fun b xs e => by rw [upd_ne (ne_of_none e hn)]; exact e) (fun b ob xs e => by rw [upd_ne (ne_of_none e hn)]; exact e) (fun b ps e => ⟨#[], by rw [upd_ne (ne_of_none e hn), e]; simp⟩) (fun m hm => ?_) (fun b u e => ?_) I.bare
  · obtain ⟨_, f1, _, f3, f4, f5⟩ := hf b hb
    exact ⟨f3, f1, f4, f5⟩
  · obtain ⟨ob, es, ep, ho, r⟩ := hm
    exact ⟨ob, es, ep, k _ ob (fun z => (hf _ z).2.1 rfl) ho, r⟩
  · by_cases hb : b = p
    · subst hb
      rw [upd_same] at e
      cases e
      exact new
    · rw [upd_ne hb] at e
      refine (I.hok b u e).stay (fun c v hc q => k c v ?_ q) (fun c q => by rw [upd_ne (ne_of_none q hn)]; exact q) fun c xs q => by rw [upd_ne (ne_of_none q hn)]; exact q
      rcases hc with rfl | hc
      · exact nt c u e
      · exact nt c _ hc
/-- a new object is tracked; of the frame only the names' values are known to stay -/
theorem laidL {t' : Nat} {p : Addr} {o : HO} {m : Str → Option Value} (I : Inv X pins σ H s) (hm : s.heap.Ns X.env.locals m) (hm' : h'.Ns X.env.locals m) (k : ∀ b u, b ≠ X.env.locals → s.heap.get? b = some u → h'.get? b = some u) (hn : H p = none)
    (nf : ∀ b u, s.heap.get? b = some u → H b = none → b ≠ p) (new : ObjOk X.prog X.w (upd H p o) h' p o) : Inv X pins σ (upd H p o) { s with heap := h', toks := t' } := by
  have nL : ∀ b u, H b = some u → b ≠ X.env.locals := fun b u e z => by rw [z, I.free] at e; cases e
  have ths : ∀ b ob, s.heap.get? b = some ob → ∃ o', h'.get? b = some o' := fun b ob e => by
    by_cases hb : b = X.env.locals
    · obtain ⟨ob', _, _, ho, _⟩ := hm'
      exact ⟨ob', by rw [hb]; exact ho⟩
    · exact ⟨ob, k b ob hb e⟩
  refine I.step (g' := s.gens) (d' := s.drawn) (ch := []) (fun _ z => nomatch z) (fun b ob hL _ _ e _ => k b ob hL e) (fun b ob hL _ _ e _ => ⟨ob.slots, k b ob hL e⟩) (fun b ob _ e n => by rw [upd_ne (nf b ob e n)]; exact n)
    (fun b ob _ e => ths b ob e) (fun b xs e => by rw [upd_ne (ne_of_none e hn)]; exact e) (fun b ob xs e => by rw [upd_ne (ne_of_none e hn)]; exact e) (fun b ps e => ⟨#[], by rw [upd_ne (ne_of_none e hn), e]; simp⟩) (fun m2 h2 => ?_) (fun b u e => ?_) I.bare
  · rw [ns_one h2 hm]
    exact hm'
  · by_cases hb : b = p
    · subst hb
      rw [upd_same] at e
      cases e
      exact new
    · rw [upd_ne hb] at e
      refine (I.hok b u e).stay (fun c v hc q => k c v ?_ q) (fun c q => by rw [upd_ne (ne_of_none q hn)]; exact q) fun c xs q => by rw [upd_ne (ne_of_none q hn)]; exact q
      rcases hc with rfl | hc
      · exact nL c u e
      · exact nL c _ hc
end

/-! ### sorted(paths) -/
theorem paired_get {α β : Type} {R : α → β → Prop} : ∀ {xs : List α} {ys : List β} {i : Nat} {x : α} {y : β}, Paired R xs ys → xs[i]? = some x → ys[i]? = some y → R x y
  | _, _, _, _, _, .nil, e, _ => by simp at e
  | _, _, 0, _, _, .cons r _, e, f => by simp at e f; subst e f; exact r
  | _, _, i + 1, _, _, .cons _ t, e, f => paired_get (i := i) t (by simpa using e) (by simpa using f)
theorem paired_length {α β : Type} {R : α → β → Prop} : ∀ {xs : List α} {ys : List β}, Paired R xs ys → xs.length = ys.length
  | _, _, .nil => rfl
  | _, _, .cons _ t => by rw [List.length_cons, List.length_cons, paired_length t]
theorem paired_pick {α β : Type} {R : α → β → Prop} {xs : List α} {ys : List β} {dx : α} {dy : β} (h : Paired R xs ys) : ∀ q : List Nat, (∀ i ∈ q, i < xs.length) → Paired R (q.map fun i => xs.getD i dx) (q.map fun i => ys.getD i dy)
  | [], _ => .nil
  | i :: q, hq => by
    have hi := hq i List.mem_cons_self
    have hl := paired_length h
    refine .cons ?_ (paired_pick h q fun j hj => hq j (List.mem_cons_of_mem _ hj))
    refine paired_get (i := i) h ?_ ?_
    · show xs[i]? = some (xs.getD i dx)
      rw [List.getD_eq_getElem?_getD]; simp [hi]
    · show ys[i]? = some (ys.getD i dy)
      rw [List.getD_eq_getElem?_getD]; simp [← hl, hi]
theorem pick_range {α : Type} (ys : List α) (d : α) : (List.range ys.length).map (fun i => ys.getD i d) = ys := by
  apply List.ext_getElem?
  intro i
  by_cases h : i < ys.length
  · rw [List.getElem?_map, List.getElem?_eq_getElem (show i < (List.range ys.length).length by simpa using h)]
    simp [h]
  · rw [List.getElem?_eq_none_iff.mpr (by simpa using h), List.getElem?_eq_none_iff.mpr (by omega)]
theorem obj_ex {P : Program} {w : World} {H : Hp} {h : Heap} {a : Addr} {o : HO} (x : ObjOk P w H h a o) : ∃ ob, h.get? a = some ob := by
  cases o with
  | lst xs => obtain ⟨_, _, _, _, e⟩ := x; exact ⟨_, e⟩
  | tup xs => obtain ⟨_, _, _, ob, e, _⟩ := x; exact ⟨_, e⟩
  | dK kvs => obtain ⟨_, _, _, _, o, _, _, e, _⟩ := x; exact ⟨_, e⟩
  | dT kvs => obtain ⟨_, _, _, _, o, _, _, e, _⟩ := x; exact ⟨_, e⟩
  | set S n => obtain ⟨o, _, _, _, e, _⟩ := x; exact ⟨_, e⟩
  | ins C dx fs => obtain ⟨_, _, _, e, _⟩ := x; exact ⟨_, e⟩
  | own y => exact x
  | xd fs => obtain ⟨_, ⟨_, _, _, e, _⟩, _⟩ := x; exact ⟨_, e⟩
  | rng lo hi => obtain ⟨_, _, _, e⟩ := x; exact ⟨_, e⟩
  | frz ob u => exact ⟨_, x.1⟩
  | tbl ps => exact ⟨_, x⟩
  | met f y => exact ⟨_, x⟩
  | ext φ => exact x.2.1
def rSorted (K : PySem.W.Frag) : List V → Hp → VK → Prop := fun xs H Q => ∃ (p : Addr) (vs : List V) (ps : List (List Int)) (R : V → List Int → Prop), xs = [.ref p] ∧ SqL K H p vs ∧ Paired R vs ps ∧
  (∀ v q, R v q → ∃ a, v = .ref a ∧ H a = some (.lst (q.map V.int))) ∧ ps.length < 64 ∧ ∀ l vs' ps', H l = none → Paired R vs' ps' → ps'.Perm ps → Rising ps' → Q (.ref l) (upd H l (.lst vs'))
section
variable {X : Cx}
theorem call_sorted (hu : X.A.in1.in1.units < cLine) : CallR X (.builtin "sorted") (rSorted X.K) := by
  intro pins s σ H xs us Q I r h
  obtain ⟨p, vs, ps, R, rfl, hq, hR, hA, h64, k⟩ := h
  obtain ⟨u, rfl, rx⟩ := vals1 r
  cases rx
  obtain ⟨its, rv, pl, hz⟩ := I.list hq
  have hl := rv.length
  have hl2 := paired_length hR
  by_cases h2 : its.length < 2
  · refine sorted_short pl.isList h2 fun D h' c hD kp e => ?_
    refine ⟨.ref D, _, I.laid (t' := s.toks) (o := .lst vs) kp hD ⟨hz, its, c, rv, e⟩, rfl, k D vs ps (I.hok.fresh hD) hR (List.Perm.refl _) ?_⟩
    have : ps.length < 2 := by omega
    match ps, this with
    | [], _ => exact List.Pairwise.nil
    | [_], _ => exact List.pairwise_singleton _ _
    | _ :: _ :: _, z => simp at z <;> omega
  · obtain ⟨m, F⟩ := I.fr
    have hm : s.heap.Ns X.env.locals m := F.ns
    have N : News X.base X.env.locals s.heap (allNews X.base s.heap X.env.locals) := news_all
    -- every item is a tracked list of ints
    have item : ∀ i, i < its.length → ∃ (a : Addr) (ks : List Value) (c : Nat), its.getD i Value.none = .ref a ∧ Vals ((ps.getD i []).map V.int) ks ∧ (a, ({ cls := .type "list", data := .seq ks.toArray c } : Obj)) ∈ allNews X.base s.heap X.env.locals := fun i hi => by
      have e1 : vs[i]? = some vs[i] := by simp [show i < vs.length by omega]
      have e2 : ps[i]? = some (ps.getD i []) := by rw [List.getD_eq_getElem?_getD]; simp [show i < ps.length by omega]
      obtain ⟨a, ea, ha⟩ := hA _ _ (paired_get hR e1 e2)
      obtain ⟨_, ks, c, rk, eo⟩ := I.hok a _ ha
      obtain ⟨u, eu, ru⟩ := rv.get e1
      rw [ea] at ru
      cases ru
      refine ⟨a, ks, c, ?_, rk, mem_allNews (fun z => ?_) ?_ eo⟩
      · rw [List.getD_eq_getElem?_getD, eu]; rfl
      · rw [z, I.free] at ha; cases ha
      · cases q : X.base.get? a with
        | none => rfl
        | some ob => rw [(I.bs a ob q).2] at ha; cases ha
    have item' : ∀ v ∈ its, ∃ (a : Addr) (ob : Obj), v = .ref a ∧ ob.cls = .type "list" ∧ (a, ob) ∈ allNews X.base s.heap X.env.locals := fun v hv => by
      obtain ⟨i, hi, ei⟩ := List.mem_iff_getElem.mp hv
      obtain ⟨a, ks, c, e1, _, e3⟩ := item i hi
      refine ⟨a, _, ?_, rfl, e3⟩
      rw [← e1, List.getD_eq_getElem?_getD]; simp [hi, ei]
    refine PySem.W.kas_sorted (T := .type "list") F N pl.isList (by omega) (by omega) (fun h Fh Nh v hv => ?_) (by decide) fun D e1 h' F' N' hD => ?_
    · obtain ⟨a, ob, rfl, hc, hmem⟩ := item' v hv
      exact PySem.W.kitAt_ty _ h ⟨ob, (Nh _ hmem).1, hc⟩
    · have O : POrd fun i j => HT.lexLt (ps.getD i []) (ps.getD j []) := ⟨fun a => lex_irr _, fun a b c => lex_tr _ _ _, fun a b c => lex_neg _ _ _⟩
      refine kas_sort_ok O (fun i j C hi hj hC => ?_) (by omega) fun q hq hs => ?_
      · obtain ⟨a, ks, c, ea, ra, ma⟩ := item i hi
        obtain ⟨b, ks2, c2, eb, rb, mb⟩ := item j hj
        unfold PySem.W.kas_ask
        rw [keyLt'_oneType, ea, eb]
        exact sortLt_list ⟨_, (N' _ (List.mem_cons_of_mem _ ma)).1, rfl, _, rfl⟩ ⟨_, (N' _ (List.mem_cons_of_mem _ mb)).1, rfl, _, rfl⟩ (intsAre_of ra) (intsAre_of rb) hu hC
      · refine PySem.W.KasFin.intro F' N' (.head fun z hz' => Nat.ne_of_lt (hD z hz')) fun h2' c F2 N2 => ?_
        have hDn : H D = none := by
          cases e : H D with
          | none => rfl
          | some u =>
            obtain ⟨ob, eo⟩ : ∃ ob, s.heap.get? D = some ob := obj_ex (I.hok D u e)
            exact absurd (hD _ (mem_allNews (N' _ List.mem_cons_self).2.1 (N' _ List.mem_cons_self).2.2 eo)) (Nat.lt_irrefl _)
        have hlen : q.size = its.length := hq.size
        have hin : ∀ i ∈ q.toList, i < its.length := fun i hi => by
          have : i ∈ List.toArray (List.range its.length) := (Array.Perm.mem_iff hq).mp (Array.mem_toList_iff.mp hi)
          simpa using this
        have keep : ∀ b u, b ≠ X.env.locals → s.heap.get? b = some u → h2'.get? b = some u := fun b u hb e => by
          cases e2 : X.base.get? b with
          | some ob =>
            have := I.bk b ob e2
            rw [e] at this
            cases this
            exact F2.keep b _ e2
          | none => exact (N2 (b, u) (List.mem_cons_of_mem _ (mem_allNews hb e2 e))).1
        have hperm : (q.toList.map fun i => ps.getD i []).Perm ps := by
          have hp2 : q.toList.Perm (List.range its.length) := by simpa using Array.perm_iff_toList_perm.mp hq
          have := hp2.map fun i => ps.getD i []
          rw [show its.length = ps.length by omega] at this
          exact this.trans (List.Perm.of_eq (pick_range ps []))
        refine ⟨.ref D, _, laidL (s := s) (h' := h2') (t' := s.toks) (o := .lst (q.toList.map fun i => vs.getD i .non)) I hm F2.ns keep hDn (fun b u e n z => ?_) ⟨?_, q.toList.map fun i => its.getD i Value.none, c, ?_, (N2 (D, _) List.mem_cons_self).1⟩, rfl,
          k D _ (q.toList.map fun i => ps.getD i []) hDn (paired_pick hR _ fun i hi => by have := hin i hi; omega) hperm ?_⟩
        · subst z
          exact absurd (hD _ (mem_allNews (N' _ List.mem_cons_self).2.1 (N' _ List.mem_cons_self).2.2 e)) (Nat.lt_irrefl _)
        · rw [List.length_map, Array.length_toList]; omega
        · exact paired_pick rv _ fun i hi => by have := hin i hi; omega
        · refine List.pairwise_map.mpr ?_
          rw [List.pairwise_iff_getElem]
          intro i j hi hj hij
          have := hs i j (Nat.le_of_lt hij) (by rw [Array.length_toList] at hj; omega)
          simpa [ple, pat, show i < q.size by rw [Array.length_toList] at hi; exact hi, show j < q.size by rw [Array.length_toList] at hj; exact hj] using this
end
end TT
namespace TT
open PySem PySem.Spec PyProof.Rows L2

/-! ### a list against the empty one -/
inductive NeER (K : PySem.W.Frag) (x y : V) (H : Hp) (Q : VK) : Prop
  | mk (p q : Addr) (xs : List V) (e : x = .ref p) (e' : y = .ref q) (h : SqL K H p xs) (h' : SqL K H q []) (k : Q (.bl (!xs.isEmpty)) H) : NeER K x y H Q
def rNeE (K : PySem.W.Frag) : R2 := fun x y H Q => NeER K x y H Q
inductive EqER (K : PySem.W.Frag) (x y : V) (H : Hp) (Q : VK) : Prop
  | mk (p q : Addr) (xs : List V) (e : x = .ref p) (e' : y = .ref q) (h : SqL K H p xs) (h' : SqL K H q []) (k : Q (.bl xs.isEmpty) H) : EqER K x y H Q
def rEqE (K : PySem.W.Frag) : R2 := fun x y H Q => EqER K x y H Q
section
variable {X : Cx}
theorem op_neE (hu : X.A.units < cLine) : OpR X (compareOp .NotEq) (rNeE X.K) := by
  intro pins s σ H x y v u Q I rx ry h
  obtain ⟨p, q, xs, rfl, rfl, hp, hq, k⟩ := h
  cases rx
  cases ry
  obtain ⟨its, r1, l1, _⟩ := I.list hp
  obtain ⟨its2, r2, l2, _⟩ := I.list hq
  have e2 : its2 = [] := r2.zero
  subst e2
  cases xs with
  | nil =>
    have e1 : its = [] := r1.zero
    subst e1
    refine SeqAt.RcNeAt.lists (e := fun _ => true) l1.isList l2.isList rfl hu (fun j h1 _ => absurd h1 (Nat.not_lt_zero j)) X.prog X.w X.xe _ ?_
    exact ⟨.bl false, H, I, rfl, k⟩
  | cons z zs =>
    refine SeqAt.RcNeAt.lists_lengths l1.isList l2.isList ?_ hu X.prog X.w X.xe _ ⟨.bl true, H, I, rfl, k⟩
    have := r1.length
    simp only [List.length_cons] at this
    simp only [List.size_toArray, List.length_nil, bne_iff_ne]
    omega
theorem op_eqE (hu : X.A.units < cLine) : OpR X (compareOp .Eq) (rEqE X.K) := by
  intro pins s σ H x y v u Q I rx ry h
  obtain ⟨p, q, xs, rfl, rfl, hp, hq, k⟩ := h
  cases rx
  cases ry
  obtain ⟨its, r1, l1, _⟩ := I.list hp
  obtain ⟨its2, r2, l2, _⟩ := I.list hq
  have e2 : its2 = [] := r2.zero
  subst e2
  cases xs with
  | nil =>
    have e1 : its = [] := r1.zero
    subst e1
    exact SeqAt.eq_listAt (e := fun _ => true) l1.isList l2.isList rfl hu (fun j h1 _ => absurd h1 (Nat.not_lt_zero j)) ⟨.bl true, H, I, rfl, k⟩
  | cons z zs =>
    refine SeqAt.eq_list_lengthsAt l1.isList l2.isList ?_ hu ⟨.bl false, H, I, rfl, k⟩
    have := r1.length
    simp only [List.length_cons] at this
    simp only [List.size_toArray, List.length_nil, bne_iff_ne]
    omega

/-! ### isinstance -/
inductive IsiR (K : PySem.W.Frag) (xs : List V) (H : Hp) (Q : VK) : Prop
  | mk (x : V) (n : String) (t : Value) (b : Bool) (e : xs = [x, .ty n]) (ty : TyOf K H x t) (h : PySem.W.kitOne K t (.type n) = some b) (k : Q (.bl b) H) : IsiR K xs H Q
def rIsi (K : PySem.W.Frag) : List V → Hp → VK → Prop := fun xs H Q => IsiR K xs H Q
theorem call_isi : CallR X (.builtin "isinstance") (rIsi X.K) := by
  intro pins s σ H xs us Q I r h
  obtain ⟨x, n, t, b, rfl, ty, e, k⟩ := h
  obtain ⟨u, w', rfl, r1, r2⟩ := vals2 r
  cases (show w' = Value.type n from r2)
  exact isinst_ok I r1 ty e fun tk => ⟨.bl b, H, I.tok tk, rfl, k⟩
/-- .. with a tuple of two classes -/
inductive Isi2R (K : PySem.W.Frag) (xs : List V) (H : Hp) (Q : VK) : Prop
  | mk (x : V) (tp : Addr) (n n' : String) (t : Value) (b : Bool) (e : xs = [x, .ref tp]) (htp : H tp = some (.tup [.ty n, .ty n'])) (ty : TyOf K H x t) (h : PySem.W.kitAny K t [.type n, .type n'] = some b) (k : Q (.bl b) H) : Isi2R K xs H Q
def rIsi2 (K : PySem.W.Frag) : List V → Hp → VK → Prop := fun xs H Q => Isi2R K xs H Q
theorem call_isi2 : CallR X (.builtin "isinstance") (rIsi2 X.K) := by
  intro pins s σ H xs us Q I r h
  obtain ⟨x, tp, n, n', t, b, rfl, htp, ty, e, k⟩ := h
  obtain ⟨u, w', rfl, r1, r2⟩ := vals2 r
  cases (show w' = Value.ref tp from r2)
  obtain ⟨_, its, ri, ob, eo, ec, m, ed⟩ := I.hok tp _ htp
  obtain ⟨c, dd, dt, sl⟩ := ob
  simp only at ec ed
  subst ec ed
  obtain ⟨y1, y2, rfl, q1, q2⟩ := ri.two
  cases (show y1 = Value.type n from q1)
  cases (show y2 = Value.type n' from q2)
  have fin : ∀ tk, EP X pins σ Q (.bool b) { s with toks := tk } := fun tk => ⟨.bl b, H, I.tok tk, rfl, k⟩
  cases ty with
  | non => cases (show u = Value.none from r1); exact PySem.W.kia_tup PySem.W.kitx_none I.kIn True.intro eo e (fun z => nomatch z) fin
  | bl y => cases (show u = Value.bool y from r1); exact PySem.W.kia_tup PySem.W.kitx_bool I.kIn True.intro eo e (fun z => nomatch z) fin
  | int i => obtain ⟨t, q⟩ := (show ∃ t, u = Value.int i t from r1); cases q; exact PySem.W.kia_tup PySem.W.kitx_int I.kIn True.intro eo e (fun z => nomatch z) fin
  | str y => obtain ⟨t, q⟩ := (show ∃ t, u = Value.str y t from r1); cases q; exact PySem.W.kia_tup PySem.W.kitx_str I.kIn True.intro eo e (fun z => nomatch z) fin
  | flt y => obtain ⟨t, q⟩ := (show ∃ t, u = Value.float y t from r1); cases q; exact PySem.W.kia_tup PySem.W.kitx_float I.kIn True.intro eo e (fun z => nomatch z) fin
  | @lst a zs ea =>
    cases (show u = Value.ref a from r1)
    obtain ⟨_, _, m2, _, h1⟩ := (show ObjOk X.prog X.w H s.heap a (.lst zs) from I.hok a _ ea)
    exact PySem.W.kia_tup PySem.W.kitx_list I.kIn ⟨_, h1, rfl⟩ eo e (fun z => nomatch z) fin
  | @frz a ob zs ea =>
    cases (show u = Value.ref a from r1)
    obtain ⟨_, _, _, m2, _, h1⟩ := (show ObjOk X.prog X.w H s.heap a (.frz ob (.lst zs)) from I.hok a _ ea)
    exact PySem.W.kia_tup PySem.W.kitx_list I.kIn ⟨_, h1, rfl⟩ eo e (fun z => nomatch z) fin
  | @tup a zs ea =>
    cases (show u = Value.ref a from r1)
    obtain ⟨_, _, _, p⟩ := (show ObjOk X.prog X.w H s.heap a (.tup zs) from I.hok a _ ea)
    obtain ⟨o, h1, h2, _⟩ := p
    exact PySem.W.kia_tup PySem.W.kitx_tuple I.kIn ⟨o, h1, h2⟩ eo e (fun z => nomatch z) fin
  | @dK a kvs ea =>
    cases (show u = Value.ref a from r1)
    obtain ⟨_, _, vs, _, p⟩ := (show ObjOk X.prog X.w H s.heap a (.dK kvs) from I.hok a _ ea)
    obtain ⟨o, es, ep, h1, h2, _⟩ := p
    exact PySem.W.kia_tup PySem.W.kitx_dict I.kIn ⟨o, h1, h2.1⟩ eo e (fun z => nomatch z) fin
  | @dT a kvs ea =>
    cases (show u = Value.ref a from r1)
    obtain ⟨_, _, zs, _, o, es, ep, h1, h2, _⟩ := (show ObjOk X.prog X.w H s.heap a (.dT kvs) from I.hok a _ ea)
    exact PySem.W.kia_tup PySem.W.kitx_dict I.kIn ⟨o, h1, h2.1⟩ eo e (fun z => nomatch z) fin
  | @ins a C dx fs ea cl ha hn htk hm =>
    cases (show u = Value.ref a from r1)
    obtain ⟨mA, O, _⟩ := ins_get I.hok ea
    obtain ⟨od, J, _⟩ := O.look
    exact PySem.W.kia_tup (PySem.W.kitx_own (cl.get _) cl.hd ha hn htk hm) I.kIn J eo e (fun z => nomatch z) fin

/-! ### sum -/
def rSum (K : PySem.W.Frag) : List V → Hp → VK → Prop := fun xs H Q => ∃ (p : Addr) (ns : List Int), xs = [.ref p] ∧ SqL K H p (ns.map V.int) ∧ Q (.int ns.sum) H
theorem call_sum (hc : X.calm = true) : CallR X (.builtin "sum") (rSum X.K) := by
  intro pins s σ H xs us Q I r h
  obtain ⟨p, ns, rfl, hq, k⟩ := h
  obtain ⟨u, rfl, rx⟩ := vals1 r
  cases rx
  obtain ⟨its, rv, pl, hz⟩ := I.list hq
  have hi : IntsAre its ns := intsAre_of rv
  have en : numsOf its = ns := hi.numsOf
  obtain ⟨zs, hzs⟩ := hi.allInts.items
  have hl := pl.isList
  rw [hzs] at hl
  refine sum_intListG (I.ok.hd hc) hl fun h' tk t' kp => ⟨.int ns.sum, H, I.kept kp, ⟨t', ?_⟩, k⟩
  have e1 : numsOf (intItems zs).toList = ns := by rw [← hzs]; exact en
  rw [nums_intItems] at e1
  rw [preSum_eq, List.take_of_length_le (by simp), e1]

/-! ### for .. in enumerate(list) -/
def Ite (K : PySem.W.Frag) (a : Addr) : It :=
  ⟨fun i H => ∃ xs x, SqL K H a xs ∧ xs[i]? = some x, fun i H v H' => ∃ p x, H p = none ∧ v = .ref p ∧ H' = upd H p (.tup [.int i, x]) ∧ ∀ xs, SqL K H a xs → xs[i]? = some x, fun i H => ∃ xs, SqL K H a xs ∧ xs.length ≤ i⟩
theorem turn_enum {P : Program} {w : World} {K : PySem.W.Frag} {es : List Expr} {kk : Nat} {tp : Pos} (a e it : Addr) (hei : e ≠ it) :
    Turn P w K (.Tuple es kk tp) (Ite K a) [e, it] e (fun i h => (∃ old, IsEnum h e it ((i : Nat) : Int) old) ∧ h.IsListIter it a i) where
  mem := by simp
  obj := fun i h st b hb => by
    obtain ⟨⟨old, he⟩, hi⟩ := st
    rcases List.mem_cons.mp hb with rfl | hb
    · exact ⟨_, he, fun v z => nomatch z⟩
    · have eb : b = it := by simpa using hb
      subst eb
      obtain ⟨o, e1, c, d⟩ := hi
      exact ⟨o, e1, fun v z => by rw [d] at z; cases z⟩
  keep := fun i h h' st k => ⟨let ⟨old, he⟩ := st.1; ⟨old, k e (by simp) _ he⟩, st.2.at fun o q => k it (by simp) o q⟩
  item := by
    intro X hP hw hK hc i pins s σ H E I hf st hg
    subst hP hw hK
    obtain ⟨xs, x, hq, hx⟩ := hg
    obtain ⟨⟨old, he⟩, hi⟩ := st
    obtain ⟨its, rv, pl, hz⟩ := I.list hq
    obtain ⟨u, hu, ru⟩ := rv.get hx
    have hn : H s.heap.objs.size = none := I.fresh
    refine wpAny_pyNext_enum_item he hi pl.isList (x := u) (by simpa using hu) hei fun h' heo hi' ht' hsz' kp => ⟨_, rfl, ?_⟩
    refine wpAny_letOwnedTupleGo_enum (s := { s with heap := h', toks := s.toks + 1 }) heo fun h2 he2 hs2 => ?_
    have hs3 : Heap.SameBut e h' h2 := hs2
    have lt : ∀ b ∈ [e, it], b < s.heap.objs.size := fun b hb => by
      rcases List.mem_cons.mp hb with rfl | hb
      · exact Heap.lt_size he
      · have eb : b = it := by simpa using hb
        subst eb
        obtain ⟨o, e1, _⟩ := hi
        exact Heap.lt_size e1
    have ht2 : h2.get? s.heap.objs.size = some { cls := .type "tuple", data := .seq #[.int i s.toks, u] } := (hs3.2 _ (Nat.ne_of_gt (lt e (by simp)))).trans ht'
    refine ⟨.ref s.heap.objs.size, upd H s.heap.objs.size (.tup [.int i, x]), turnNew (s := s) (h' := h2) (t' := s.toks + 1) (fp := [e, it]) I hf (fun b ob hb q => ?_) (Nat.le_refl _) ⟨by show 2 ≤ sizeLine; decide, [.int i s.toks, u], .cons ⟨_, rfl⟩ (.cons ru .nil), ⟨_, ht2, rfl, _, rfl⟩⟩, rfl,
      ⟨_, x, hn, rfl, rfl, fun ys hy => by rw [I.list_inj hy hq]; exact hx⟩, ⟨⟨u, he2⟩, ?_⟩, fun b hb => ?_⟩
    · have h1 : b ≠ e := fun z => hb (by simp [z])
      have h3 : b ≠ it := fun z => hb (by simp [z])
      exact (hs3.2 b h1).trans (kp b ob h1 h3 q)
    · exact hi'.extBut hs3.extBut (Ne.symm hei)
    · rw [upd_ne (Nat.ne_of_lt (lt b hb))]
      exact (hf b hb).1
  done := by
    intro X hP hw hK hc i pins s σ H E I hf st hg
    subst hP hw hK
    obtain ⟨xs, hq, hx⟩ := hg
    obtain ⟨⟨old, he⟩, hi⟩ := st
    obtain ⟨its, rv, pl, hz⟩ := I.list hq
    obtain ⟨f0, f1, f2, f3, f4, f5⟩ := hf it (by simp)
    have hl := rv.length
    exact wpAny_pyNext_enum_end (I.ok.hd hc) he hi pl.isList (by simp; omega) fun h' eb => ⟨rfl, I.turned (t' := s.toks) (fun b o hb q => eb b o hb q) f0 f1 f3 f4 f5⟩
  self := fun _ _ _ _ _ st h => let ⟨_, he⟩ := st.1; wpAny_pyIter_enum he h
def iEnum (K : PySem.W.Frag) (ta : TA) : TI := fun σ H R => ta σ H fun vs H1 => ∃ a, vs = [.ref a] ∧ (∃ xs, SqL K H1 a xs) ∧ R (Ite K a) H1
theorem pi_enum {a : Expr} {ta : TA} {es : List Expr} {kk : Nat} {tp p pos : Pos} (hg : Gl X "enumerate") (hm : X.mg "enumerate" = none) (ha : PA X [a] ta) (hs : starEach [a] X.env = [(false, eval a X.env)] := by rfl) :
    PI X (.Tuple es kk tp) (.Call (.Name "enumerate" p) [a] [] pos) (iEnum X.K ta) := by
  intro pins s σ H R I h
  refine Call_ (ld_blt I hg hm boot_enumerate (PyProof.Rows.callWith_type1 (thn (ha pos pins s σ H _ I h) fun us s1 ⟨vs, H1, I1, r1, q1⟩ => ?_) hs rfl))
  obtain ⟨b, rfl, ⟨xs, hq⟩, q⟩ := q1
  obtain ⟨u, rfl, rx⟩ := vals1 r1
  cases rx
  obtain ⟨its, rv, pl, hz⟩ := I1.list hq
  refine call_enumerate_list pl.isList fun h' he hi hsz kp => ?_
  have I2 : Inv X pins σ H1 { s1 with heap := h' } := I1.kept (t' := s1.toks) kp
  refine wpAny_pyIter_enum (s := { s1 with heap := h' }) he ⟨s1.heap.objs.size + 1, [s1.heap.objs.size + 1, s1.heap.objs.size], _, _, H1, rfl, I2, turn_enum b _ _ (Nat.succ_ne_self _), ⟨⟨_, he⟩, hi⟩, fun c hc => ?_, q⟩
  have hc' : s1.heap.objs.size ≤ c := by
    rcases List.mem_cons.mp hc with rfl | hc
    · exact Nat.le_succ _
    · have : c = s1.heap.objs.size := by simpa using hc
      exact Nat.le_of_eq this.symm
  exact I1.fpOk hc' (I1.hok.fresh hc')
/-- over enumerate of a list that the body leaves as it is; each turn's pair is new -/
theorem for_enum {K : PySem.W.Frag} {a : Addr} {xs : List V} {g : TG} {tb : TS} {De : Ends} {σ : L2.St} {H : Hp} (Pv : Nat → L2.St → Hp → Prop) (h0 : Pv 0 σ H) (hl : ∀ i σ H, i ≤ xs.length → Pv i σ H → SqL K H a xs)
    (hs : ∀ i x σ H p, xs[i]? = some x → Pv i σ H → H p = none → g (.ref p) σ (upd H p (.tup [.int i, x])) fun σ2 H2 => tb { De with nx := Pv (i + 1), ct := Pv (i + 1), bk := De.nx } σ2 H2) (hd : ∀ σ H, Pv xs.length σ H → De.nx σ H) :
    ∃ W : Nat → Nat → L2.St → Hp → Prop, (∃ m, W 0 m σ H) ∧ ∀ i m σ H, W i m σ H →
      ((Ite K a).stop i H ∧ De.nx σ H) ∨ ((Ite K a).go i H ∧ ∃ N : L2.St → Hp → Prop, (∀ σ' H', N σ' H' → ∃ m', m' < m ∧ W (i + 1) m' σ' H') ∧ ∀ x H', (Ite K a).yld i H x H' → g x σ H' fun σ2 H2 => tb { De with nx := N, ct := N, bk := De.nx } σ2 H2) := by
  refine ⟨fun i m σ H => m = xs.length - i ∧ i ≤ xs.length ∧ Pv i σ H, ⟨xs.length, by simp, Nat.zero_le _, h0⟩, ?_⟩
  rintro i m σ H ⟨rfl, hi, p⟩
  have q := hl i σ H hi p
  by_cases hlt : i < xs.length
  · refine .inr ⟨⟨xs, xs[i], q, by simp [hlt]⟩, Pv (i + 1), fun σ' H' p' => ⟨xs.length - (i + 1), by omega, rfl, hlt, p'⟩, fun x H' y => ?_⟩
    obtain ⟨b, z, hb, rfl, rfl, hz⟩ := y
    exact hs i z σ H b (hz xs q) p hb
  · have e : i = xs.length := by omega
    subst e
    exact .inl ⟨⟨xs, q, Nat.le_refl _⟩, hd σ H p⟩
end
end TT
namespace TT
open PySem PySem.Spec PyProof.Rows L2

/-! ### a list comprehension with one clause and no test, whose block captures nothing -/
def compX (X : Cx) (scope : Scope) (C : Addr) (N : List Str) (s2 : Shared) (H2 : Hp) (fp : List Addr) : Cx :=
  { X with N := N, s₀ := s2, H₀ := H2, env := compEnvC scope [] C X.env, outer := X.stack, stack := X.stack, ex := fp, fn := fun _ => false, pn := [], xe := fun _ _ => False }
/-- J: what is walked; acc: the list that is made; n: the block's names -/
def tComp (wi : TI) (g : TG) (te : TE) (n : Nat) : TE := fun σ H Q => wi σ H fun J H1 => ∀ acc, H1 acc = none → ∃ W : Nat → Nat → Hp → List V → Prop, (∃ m, W 0 m (upd H1 acc (.lst [])) []) ∧
  ∀ i m H2 ys, W i m H2 ys → H2 acc = some (.lst ys) → (J.stop i H2 ∧ Q (.ref acc) H2) ∨ (J.go i H2 ∧ ys.length < sizeLine ∧ ∀ x H3, J.yld i H2 x H3 → g x (List.replicate n none) H3 fun σ2 H4 => te σ2 H4 fun y H5 =>
    H5 acc = some (.lst ys) ∧ ∃ m', m' < m ∧ W (i + 1) m' (upd H5 acc (.lst (ys ++ [y]))) (ys ++ [y]))
section
variable {X : Cx}
theorem compOk {pins : List (Addr × Obj)} {σ : L2.St} {H : Hp} {s : Shared} {scope : Scope} {C : Addr} {N : List Str} {fp : List Addr} (I : Inv X pins σ H s) (hc : X.calm = true) (hkind : scope.kind = .function) (hfree : ∀ y ∈ scope.names, y.2 ≠ .free) (hcell : ∀ y ∈ scope.names, y.2 ≠ .cell)
    (hC : s.heap.objs.size ≤ C) (hf : ∀ b ∈ fp, FpOk X pins H b) (hlt : ∀ b ∈ fp, b < s.heap.objs.size) : (compX X scope C N s H fp).Ok where
  mod := I.ok.mod
  kind := hkind
  glob := I.ok.glob
  blt := I.ok.blt
  above := hC
  inj := fun x y c e _ => nomatch e
  has := fun x hx => by
    have none_of : ∀ (l : List (Str × NameKind)) (k : NameKind), (∀ y ∈ l, y.2 ≠ .free) → (∀ y ∈ l, y.2 ≠ .cell) →
        (l.map fun (n, k) => if (k == NameKind.free && X.env.scope.kind == .function && X.env.kindOf n == some .cell) then (n, NameKind.cell) else (n, k)).lookup x = some k → k ≠ .cell ∧ k ≠ .free := by
      intro l
      induction l with
      | nil => intro k _ _ e; simp at e
      | cons p l ih =>
        intro k h1 h2 e
        obtain ⟨n, kn⟩ := p
        have hn1 : kn ≠ .free := h1 (n, kn) List.mem_cons_self
        have hn2 : kn ≠ .cell := h2 (n, kn) List.mem_cons_self
        have eb : (kn == NameKind.free) = false := by simpa using hn1
        rw [List.map_cons, List.lookup_cons] at e
        simp only [eb, Bool.false_and, Bool.false_eq_true, if_false] at e
        cases hx : x == n with
        | true =>
          rw [hx] at e
          simp only at e
          cases e
          exact ⟨hn2, hn1⟩
        | false =>
          rw [hx] at e
          exact ih k (fun y hy => h1 y (List.mem_cons_of_mem _ hy)) (fun y hy => h2 y (List.mem_cons_of_mem _ hy)) e
    rcases hx with e | e
    · exact absurd rfl (none_of _ _ hfree hcell e).1
    · exact absurd rfl (none_of _ _ hfree hcell e).2
  cab := fun x c e _ => nomatch e
  hd := fun _ => I.ok.hd hc
  frames := I.ok.frames
  stk := .inl rfl
  exf := fun b hb => ⟨Nat.ne_of_lt (Nat.lt_of_lt_of_le (hlt b hb) hC), (fun x c e => (nomatch e))⟩
  bs := I.bs
  bsz := Nat.le_trans I.ok.bsz I.sz
  noex := fun b o e hb => by
    rcases (hf b hb).2.2.2.1 with z | z
    · exact I.ok.noex b o e z
    · exact absurd (Nat.lt_of_lt_of_le (Heap.lt_size e) (Nat.le_trans I.ok.bsz z)) (Nat.lt_irrefl _)
  exfs := fun b hb z => by
    rcases List.mem_cons.mp (I.stkSub b z) with e | z
    · exact (hf b hb).2.1 e
    · exact (hf b hb).2.2.1 z
  funs := I.stack
  frf := I.stkFree
theorem pe_comp {elt tg iter : Expr} {scope : Scope} {pos : Pos} {N : List Str} {wi : TI} {g : TG} {te : TE} (hc : X.calm = true) (hi : PI X tg iter wi) (hfree : ∀ y ∈ scope.names, y.2 ≠ .free) (hcell : ∀ y ∈ scope.names, y.2 ≠ .cell) (hkind : scope.kind = .function)
    (hnames : ∀ y ∈ scope.names, y.2 = .local → scope.names.lookup y.1 = some .local) (hg : ∀ C s2 H2 fp, PG (compX X scope C N s2 H2 fp) tg g) (he : ∀ C s2 H2 fp, PE (compX X scope C N s2 H2 fp) elt te)
    (hs : ∀ x, foldedSetIterable iter X.env x = pure x := by intro _; rfl) : PE X (.ListComp elt [⟨tg, iter, [], 0⟩] scope pos) (tComp wi g te N.length) := by
  intro pins s σ H Q I h
  rw [eval_ListComp]
  refine wpAny_comprehension_free (cl := []) (use := none) rfl hs (closureFor_none hfree) hkind hnames (thn (hi pins s σ H _ I h) fun v s1 h1 => thn h1 fun itv s2 h2 => ?_)
  obtain ⟨it, fp, tn, J, H2, rfl, I2, T, st2, f2, q⟩ := h2
  have hlt : ∀ b ∈ fp, b < s2.heap.objs.size := fun b hb => let ⟨o, e, _⟩ := T.obj _ _ st2 b hb; Heap.lt_size e
  refine wpAny_newObj_type (wpAny_newFunctionEnv hcell (by intro y hy; simp at hy) (fun h1 hns hsb => ?_) hkind)
  obtain ⟨W, ⟨m0, w0⟩, turn⟩ := q s2.heap.objs.size I2.fresh
  have hCs : (s2.heap.push { cls := .type "list", dict := none, data := .seq ([] : List Value).toArray }).objs.size = s2.heap.objs.size + 1 := Heap.size_push ..
  dsimp only at hns hsb ⊢
  generalize hC : (s2.heap.push { cls := .type "list", dict := none, data := .seq ([] : List Value).toArray }).objs.size = C at hns hsb hCs ⊢
  have leC : s2.heap.objs.size ≤ C := by omega
  have old : ∀ b o, s2.heap.get? b = some o → h1.get? b = some o := fun b o e => by
    have hb := Heap.lt_size e
    exact hsb.extBut b o (Nat.ne_of_lt (Nat.lt_of_lt_of_le hb leC)) (Heap.get?_push_of_some _ (Heap.get?_push_of_some _ e))
  have accAt : h1.get? s2.heap.objs.size = some { cls := .type "list", dict := none, data := .seq ([] : List Value).toArray } :=
    hsb.extBut _ _ (Nat.ne_of_lt (by omega)) (Heap.get?_push_of_some _ (Heap.get?_push_size _ rfl))
  have hCn : H2 C = none := I2.hok.fresh leC
  have ok0 := compOk (N := N) (C := C) I2 hc hkind hfree hcell leC f2 hlt
  have I4 : Inv (compX X scope C N s2 H2 fp) [] (List.replicate N.length none) (upd H2 s2.heap.objs.size (.lst [])) { s2 with heap := h1, toks := s2.toks + ([] : List (Str × Value)).length } := by
    refine ⟨ok0, rfl, I2.bare, Un.laid old (Nat.le_refl _) I2.fresh, ⟨_, hns, fun i x v _ e => ?_⟩, (fun x c e => (nomatch e)), ?_, (fun x c e => (nomatch e)), (fun p hp => (nomatch hp)), ?_, ?_⟩
    · exfalso
      rw [List.getElem?_replicate] at e
      split at e <;> simp at e
    · show upd H2 s2.heap.objs.size (.lst []) C = none
      rw [upd_ne (Nat.ne_of_gt (by omega))]
      exact hCn
    · exact I2.hok.laid old (Nat.le_refl _) ⟨Nat.zero_le _, [], 0, .nil, accAt⟩
    · simp [compX]
  have st4 : tn 0 h1 := T.keep _ _ _ st2 fun b _ o e => old b o e
  have fr4 : ∀ b ∈ fp, upd H2 s2.heap.objs.size (.lst []) b = none := fun b hb => by
    rw [upd_ne (Nat.ne_of_lt (hlt b hb))]
    exact (f2 b hb).1
  have stat : ∀ {pn : List (Addr × Obj)} {H' : Hp}, (∀ p ∈ pn, p.1 ∉ fp) → (∀ b ∈ fp, H' b = none) → ∀ b ∈ fp, FpOk (compX X scope C N s2 H2 fp) pn H' b := fun hpn hn b hb =>
    ⟨hn b hb, Nat.ne_of_lt (Nat.lt_of_lt_of_le (hlt b hb) leC), ok0.exfs b hb, .inl hb, (fun x c e => (nomatch e)), fun p hp z => hpn p hp (z ▸ hb)⟩
  have loop : ∀ s4 : Shared, s4 = { s2 with heap := h1, toks := s2.toks + ([] : List (Str × Value)).length } →
      codeAny (model X.prog X.w) X.A (.compLoop (.ListComp elt [⟨tg, iter, [], 0⟩] scope pos) 0 (.ref it) (.ref s2.heap.objs.size) (compEnvC scope [] C X.env))
        (compPost (model X.prog X.w) X.A X.xe none (EP X pins σ Q) (.ref s2.heap.objs.size) C) s4 := by
    rintro s4 rfl
    refine codeAny_loop rfl (fun n s' => ∃ i σ' H' ys, Inv (compX X scope C N s2 H2 fp) [] σ' H' s' ∧ tn i s'.heap ∧ (∀ b ∈ fp, H' b = none) ∧ H' s2.heap.objs.size = some (.lst ys) ∧ W i n H' ys) ?_ m0 ⟨0, _, _, [], I4, st4, fr4, upd_same, w0⟩
    rintro n s' ⟨i, σ', H', ys, I', st', fr', ha', w'⟩
    show wpAny _ _ ((compTurn (.ListComp elt [⟨tg, iter, [], 0⟩] scope pos) 0 (.ref it) (.ref s2.heap.objs.size) (compEnvC scope [] C X.env)).onRaise (fun x => do noteFrame x (compEnvC scope [] C X.env); theTreesLotGoes x)) _ _ s'
    refine wpAny_noted ?_
    rw [compTurn_list1]
    refine wpAny_bind (wpAny_standAt (wpAny_bind ?_))
    rcases turn i n H' ys w' ha' with ⟨stop, qn⟩ | ⟨go, hz, step⟩
    · refine thn (T.done (compX X scope C N s2 H2 fp) rfl rfl rfl hc i [] s' σ' H' _ I' (stat ((fun p hp => (nomatch hp))) fr') st' stop) fun r s5 ⟨hr, I5⟩ => ?_
      subst hr
      refine wpAny_pure ?_
      obtain ⟨m5, hn5, _⟩ := I5.loc
      refine ⟨m5, hn5, fun h' sb => ?_⟩
      have sb' : Heap.SameBut C s5.heap h' := sb
      have up : ∀ b o, s2.heap.get? b = some o → ∀ o', s5.heap.get? b = some o' → h'.get? b = some o' := fun b o e o' e' => (sb'.2 b (Nat.ne_of_lt (Nat.lt_of_lt_of_le (Heap.lt_size e) leC))).trans e'
      have u5 := I5.base
      have un : Un (frs X.stack) fp H2 H' s2.heap h' :=
        ⟨fun b o e n hb hx => up b o e _ (u5.keep b o e n hb hx), fun b o e n hb hx => let ⟨sl, z⟩ := u5.slot b o e n hb hx; ⟨sl, up b o e _ z⟩, u5.free, fun b o e hx => let ⟨o', z⟩ := u5.there b o e hx; ⟨o', up b o e _ z⟩, u5.tups, u5.frzs, u5.tbls⟩
      have hok5 : HOk X.prog X.w H' h' := fun b u e => by
        have nC : ∀ c v, H' c = some v → c ≠ C := fun c v z e2 => by
          have : H' C = none := I5.free
          rw [e2, this] at z
          cases z
        refine (I5.hok b u e).stay (fun c v hcc z => (sb'.2 c ?_).trans z) (fun _ z => z) fun _ _ z => z
        rcases hcc with rfl | hcc
        · exact nC c u e
        · exact nC c _ hcc
      have fin : Inv X pins σ H' { s5 with heap := h' } := I2.call' (s' := { s5 with heap := h' }) (ch := fp) I5.os un hok5 I5.bare fun b hb => let ⟨_, g1, _, g3, g4, g5⟩ := f2 b hb; ⟨g3, g1, g4, g5⟩
      exact ⟨.ref s2.heap.objs.size, H', fin, rfl, qn⟩
    · refine thn (T.item (compX X scope C N s2 H2 fp) rfl rfl rfl hc i [] s' σ' H' _ I' (stat ((fun p hp => (nomatch hp))) fr') st' go) fun r s5 ⟨u, hr, h5⟩ => ?_
      subst hr
      refine wpAny_bind (thn h5 fun _ s6 ⟨x, H6, I6, r6, y6, st6, fr6⟩ => ?_)
      have I6' := (I6.weak (σ' := List.replicate N.length none) (by rw [List.length_replicate]; exact I6.len.symm) (fun j v e => by
        exfalso
        rw [List.getElem?_replicate] at e
        split at e <;> simp at e)).pinned (stat ((fun p hp => (nomatch hp))) fr6) (T.obj _ _ st6)
      refine wpAny_bind (wpAny_mono (hg C s2 H2 fp _ s6 _ H6 x u _ I6' r6 (step x H6 y6)) (fun _ s7 ⟨σ7, H7, I7, q7⟩ => ?_) fun _ _ z => False.elim z)
      refine wpAny_bind (wpAny_bind (wpAny_mono (he C s2 H2 fp _ s7 σ7 H7 _ I7 q7) (fun v8 s8 ⟨y, H8, I8, r8, ha8, m8, hm8, w8⟩ => ?_) fun _ _ z => False.elim z))
      refine wpAny_bind (wpAny_mono (mt_append (X := compX X scope C N s2 H2 fp) _ s8 σ7 H8 (.ref s2.heap.objs.size) [y] _ [v8] (fun _ H9 => H9 = upd H8 s2.heap.objs.size (.lst (ys ++ [y]))) I8 rfl (.cons r8 .nil) ⟨_, ys, y, rfl, rfl, ha8, hz, rfl⟩) (fun _ s9 ⟨_, H9, I9, _, e9⟩ => ?_) fun _ _ z => False.elim z)
      subst e9
      refine wpAny_pure (wpAny_pure ⟨rfl, m8, hm8, i + 1, σ7, _, ys ++ [y], I9.unpinned, T.keep _ _ _ st6 fun b hb o e => (I9.pin (b, o) (List.mem_append_right _ (List.mem_append_right _ (mem_pinsAt hb e)))).1, fun b hb => ?_, upd_same, w8⟩)
      obtain ⟨o, e, _⟩ := T.obj _ _ st6 b hb
      exact (I9.pin (b, o) (List.mem_append_right _ (List.mem_append_right _ (mem_pinsAt hb e)))).2.1
  exact codeAny_compStart_list (loop _ rfl) (T.self _ 0 _ _ _ st4 (loop _ rfl))
end
end TT
namespace TT
open PySem PySem.Spec PyProof.Rows L2

/-! ### a def of the text with its promise, called -/
structure Ok1 (P : Program) (w : World) (K : PySem.W.Frag) (mg : Str → Option Value) (base : Heap) (k : Nat) (x : Str) (ps : List Str) (sp : Sp) : Prop where
  ex : ∃ (f : Addr) (fd : FuncData), FnOk P w K mg base CX0 k f fd ps sp ∧ mg x = some (.ref f) ∧ PySem.W.keepIn K (.ref f) = true ∧ Binds K fd ps []
theorem pe_fn {X : Cx} {k : Nat} {x : Str} {ps : List Str} {sp : Sp} {e : Expr} {es : List Expr} {t : TA} {p pos : Pos} (F : Ok1 X.prog X.w X.K X.mg X.base k x ps sp) (hr : Room k X.A) (hg : Gl X x) (ha : PA X (e :: es) t)
    (hdb : (x == ("__debug__" : Str)) = false := by decide) (he : starEach (e :: es) X.env = (false, eval e X.env) :: starEach es X.env := by rfl) (hpl : (backTo pos (starEach es X.env)).any (·.1) = false := by rfl) :
    PE X (.Call (.Name x p) (e :: es) [] pos) (tCall sp [] E0 t) := by
  obtain ⟨f, fd, F, hm, hk, hb⟩ := F.ex
  exact pe_call F hr hg hm hk hb .nil pass0 ha hdb he hpl

/-! ### heaps that grow by what is dropped again -/
section
variable {G H : Hp} {p : Addr} {o : HO}
theorem Ext.tmp (s : Same G H) (n : H p = none) : Ext G H G (upd H p o) := ⟨Same.refl G, s.trans (same_upd n), same_upd n, fun _ _ _ => rfl⟩
end

/-! ### slices -/
theorem cut_from (xs : List V) (k : Nat) : cutV xs (some (k : Int)) none = xs.drop k := by
  unfold cutV
  rw [HT.sIx_nat, HT.sIx_none]
  by_cases h : k ≤ xs.length
  · rw [Nat.min_eq_left h, List.take_of_length_le (by rw [List.length_drop]; exact Nat.le_refl _)]
  · rw [Nat.min_eq_right (by omega), Nat.sub_self, List.take_zero, List.drop_of_length_le (by omega)]
theorem cut_to (xs : List V) (k : Nat) : cutV xs none (some (k : Int)) = xs.take k := by
  unfold cutV
  rw [HT.sIx_nat, HT.sIx_none, List.drop_zero, Nat.sub_zero]
  by_cases h : k ≤ xs.length
  · rw [Nat.min_eq_left h]
  · rw [Nat.min_eq_right (by omega), List.take_of_length_le (Nat.le_refl _), List.take_of_length_le (by omega)]
theorem cut_last (xs : List V) : cutV xs (some (-1)) none = xs.drop (xs.length - 1) := by
  unfold cutV
  rw [HT.sIx_none, show HT.sIx xs.length 0 (some (-1)) = xs.length - 1 from by
    show (if (-1 : Int) < 0 then ((-1 : Int) + (xs.length : Int)).toNat else min (-1 : Int).toNat xs.length) = xs.length - 1
    rw [if_pos (by decide)]; omega]
  exact List.take_of_length_le (by rw [List.length_drop]; exact Nat.le_refl _)
theorem cut_front (xs : List V) : cutV xs none (some (-1)) = xs.take (xs.length - 1) := by
  unfold cutV
  rw [HT.sIx_none, show HT.sIx xs.length xs.length (some (-1)) = xs.length - 1 from by
    show (if (-1 : Int) < 0 then ((-1 : Int) + (xs.length : Int)).toNat else min (-1 : Int).toNat xs.length) = xs.length - 1
    rw [if_pos (by decide)]; omega, List.drop_zero, Nat.sub_zero]
theorem line_big : (1000000 : Nat) ≤ sizeLine := by decide
/-- t[1:] of a tree -/
theorem kids_cut (m : Str) (kv : List V) : cutV (.str m :: kv) (some 1) none = kv := cut_from (.str m :: kv) 1
theorem kids_not (m : Str) (kv : List V) : ¬ (HT.sIx (V.str m :: kv).length 0 (some 1) = 0 ∧ HT.sIx (V.str m :: kv).length (V.str m :: kv).length none = (V.str m :: kv).length) := by
  rintro ⟨h, _⟩
  have : HT.sIx (V.str m :: kv).length 0 (some ((1 : Nat) : Int)) = min 1 (V.str m :: kv).length := HT.sIx_nat _ _ _
  rw [show ((1 : Nat) : Int) = 1 from rfl] at this
  rw [this] at h
  simp at h
end TT
namespace TT
open PySem PySem.Spec PyProof.Rows L2
/-! ### an if both of whose ways go on: what holds behind it is said once -/
def tIfM (c : TT) (t u : TS) : TS := fun De σ H => ∃ N : L2.St → Hp → Prop, (c σ H fun b H1 => if b = true then t { De with nx := N } σ H1 else u { De with nx := N } σ H1) ∧ ∀ σ' H', N σ' H' → De.nx σ' H'
theorem ps_ifM {X : Cx} {c : Expr} {a b : List Stmt} {tc : TT} {t u : TS} {pos : Pos} (hc : PT X c tc) (ha : PSs X a t) (hb : PSs X b u) : PS X (.If c a b pos) (tIfM tc t u) := by
  intro pins s σ H De I h
  obtain ⟨N, h, hN⟩ := h
  refine thn (ps_if hc ha hb pins s σ H { De with nx := N } I h) fun f s' q => ?_
  cases f with
  | next => obtain ⟨σ', H', I', q⟩ := q; exact ⟨σ', H', I', hN _ _ q⟩
  | brk => exact q
  | cont => exact q
  | ret v => exact q

/-! ### words -/
def Word (x : Str) : Prop := 1 ≤ x.length ∧ x.length ≤ 28 ∧ ∀ c ∈ x.cps.toList, 97 ≤ c ∧ c ≤ 122
instance (x : Str) : Decidable (Word x) := by unfold Word; infer_instance
mutual
def Tr.words : Tr → Prop
  | .node m ks => Word m ∧ wordsOf ks
def wordsOf : List Tr → Prop
  | [] => True
  | t :: ts => t.words ∧ wordsOf ts
end
theorem wordsOf_iff : ∀ {ts : List Tr}, wordsOf ts ↔ ∀ t ∈ ts, t.words
  | [] => by simp [wordsOf]
  | t :: ts => by
    rw [wordsOf, wordsOf_iff (ts := ts)]
    constructor
    · rintro ⟨h1, h2⟩ u hu
      rcases List.mem_cons.mp hu with rfl | hu
      · exact h1
      · exact h2 u hu
    · intro h
      exact ⟨h t List.mem_cons_self, fun u hu => h u (List.mem_cons_of_mem _ hu)⟩
theorem word_sab : Word (Str.ofString "sab") := by decide +kernel
theorem word_tab : Word (Str.ofString "tab") := by decide +kernel
theorem word_sob : Word (Str.ofString "sob") := by decide +kernel
theorem word_sat : Word (Str.ofString "sat") := by decide +kernel
theorem four_words (n : Int) : ∃ m, atI [V.str (Str.ofString "sab"), V.str (Str.ofString "tab"), V.str (Str.ofString "sob"), V.str (Str.ofString "sat")] (n % 4) = some (V.str m) ∧ Word m := by
  have h1 : 0 ≤ n % 4 := Int.emod_nonneg _ (by decide)
  have h2 : n % 4 < 4 := Int.emod_lt_of_pos _ (by decide)
  generalize n % 4 = k at *
  obtain rfl | rfl | rfl | rfl : k = 0 ∨ k = 1 ∨ k = 2 ∨ k = 3 := by omega
  · exact ⟨_, rfl, word_sab⟩
  · exact ⟨_, rfl, word_tab⟩
  · exact ⟨_, rfl, word_sob⟩
  · exact ⟨_, rfl, word_sat⟩
theorem seven_ints (n : Int) : ∃ k : Nat, atI [V.int 0, V.int 0, V.int 1, V.int 1, V.int 2, V.int 3, V.int 4] (n % 7) = some (V.int (k : Int)) := by
  have h1 : 0 ≤ n % 7 := Int.emod_nonneg _ (by decide)
  have h2 : n % 7 < 7 := Int.emod_lt_of_pos _ (by decide)
  generalize n % 7 = k at *
  obtain rfl | rfl | rfl | rfl | rfl | rfl | rfl : k = 0 ∨ k = 1 ∨ k = 2 ∨ k = 3 ∨ k = 4 ∨ k = 5 ∨ k = 6 := by omega
  · exact ⟨0, rfl⟩
  · exact ⟨0, rfl⟩
  · exact ⟨1, rfl⟩
  · exact ⟨1, rfl⟩
  · exact ⟨2, rfl⟩
  · exact ⟨3, rfl⟩
  · exact ⟨4, rfl⟩
theorem one_sign (n : Int) : ∃ k : Int, atI [V.int 1, V.int (-1)] (n % 2) = some (V.int k) ∧ (k = 1 ∨ k = -1) := by
  have h1 : 0 ≤ n % 2 := Int.emod_nonneg _ (by decide)
  have h2 : n % 2 < 2 := Int.emod_lt_of_pos _ (by decide)
  generalize n % 2 = k at *
  obtain rfl | rfl : k = 0 ∨ k = 1 := by omega
  · exact ⟨1, rfl, .inl rfl⟩
  · exact ⟨-1, rfl, .inr rfl⟩
theorem alphabet_all : ∀ k : _root_.Fin 26, atI (Str.ofString "abcdefghijklmnopqrstuvwxyz").cps.toList ((k.val : Nat) : Int) = some (97 + k.val) := by decide +kernel
theorem alphabet_at (n : Int) : ∃ c, atI (Str.ofString "abcdefghijklmnopqrstuvwxyz").cps.toList (n % 26) = some c ∧ 97 ≤ c ∧ c ≤ 122 := by
  have h1 : 0 ≤ n % 26 := Int.emod_nonneg _ (by decide)
  have h2 : n % 26 < 26 := Int.emod_lt_of_pos _ (by decide)
  have := alphabet_all ⟨(n % 26).toNat, by omega⟩
  simp only [Int.toNat_of_nonneg h1] at this
  exact ⟨_, this, by omega, by omega⟩
theorem ints_ix {ns : List Int} {i : Nat} (h : i < ns.length) : atI (ns.map V.int) (i : Int) = some (V.int ns[i]) := atI_nat (by rw [List.getElem?_map, List.getElem?_eq_getElem h]; rfl)
theorem ints_ixI {ns : List Int} {i : Int} (h0 : 0 ≤ i) (h : i < ns.length) : ∃ n, atI (ns.map V.int) i = some (V.int n) := by
  have := ints_ix (ns := ns) (i := i.toNat) (by omega)
  rw [Int.toNat_of_nonneg h0] at this
  exact ⟨_, this⟩
end TT
namespace TT
open PySem PySem.Spec PyProof.Rows L2
/-! ### lists of pairs -/
theorem paired_mono {α β : Type} {R S : α → β → Prop} (f : ∀ a b, R a b → S a b) : ∀ {xs : List α} {ys : List β}, Paired R xs ys → Paired S xs ys
  | _, _, .nil => .nil
  | _, _, .cons r t => .cons (f _ _ r) (paired_mono f t)
theorem paired_app {α β : Type} {R : α → β → Prop} : ∀ {xs xs' : List α} {ys ys' : List β}, Paired R xs ys → Paired R xs' ys' → Paired R (xs ++ xs') (ys ++ ys')
  | _, _, _, _, .nil, s => s
  | _, _, _, _, .cons r t, s => .cons r (paired_app t s)
theorem paired_snoc {α β : Type} {R : α → β → Prop} {y : α} : ∀ {xs : List α} {zs : List β}, Paired R (xs ++ [y]) zs → ∃ ys z, zs = ys ++ [z] ∧ Paired R xs ys ∧ R y z
  | [], _, .cons r .nil => ⟨[], _, rfl, .nil, r⟩
  | x :: xs, _, .cons r t => by
    obtain ⟨ys, z, rfl, t', q⟩ := paired_snoc t
    exact ⟨_ :: ys, z, rfl, .cons r t', q⟩
theorem last_of {α : Type} : ∀ (xs : List α), xs.isEmpty = false → ∃ ys y, xs = ys ++ [y]
  | [], h => by simp at h
  | x :: xs, _ => ⟨(x :: xs).dropLast, (x :: xs).getLast (by simp), (List.dropLast_concat_getLast (by simp)).symm⟩
theorem last_at {α : Type} (ys : List α) (y : α) : (ys ++ [y])[(ys ++ [y]).length - 1]? = some y := by simp
/-- an item at a place, of a list or a tuple -/
theorem ixAny {K : PySem.W.Frag} {H : Hp} {a : Addr} {vs : List V} {i : Int} {v : V} {Q : VK} (h : SqL K H a vs ∨ SqT K H a vs) (e : atI vs i = some v) (q : Q v H) : rIx K (.ref a) (.int i) H Q := by
  rcases h with h | h
  · exact .inl ⟨a, vs, i, v, rfl, rfl, h, e, q⟩
  · exact .inr (.inl ⟨a, vs, i, v, rfl, rfl, h, e, q⟩)

/-! ### what isinstance says of the built-in kinds -/
section
variable (K : PySem.W.Frag)
open PySem.W
theorem kit2_list : kitAny K (.type "list") [.type "list", .type "tuple"] = some true := by rfl
theorem kit2_tuple : kitAny K (.type "tuple") [.type "list", .type "tuple"] = some true := by rfl
theorem kit2_int : kitAny K (.type "int") [.type "list", .type "tuple"] = some false := by rfl
theorem kit2_str : kitAny K (.type "str") [.type "list", .type "tuple"] = some false := by rfl
theorem kit2_bool : kitAny K (.type "bool") [.type "list", .type "tuple"] = some false := by rfl
theorem kit2_none : kitAny K (.type "NoneType") [.type "list", .type "tuple"] = some false := by rfl
theorem kit_list_list : kitOne K (.type "list") (.type "list") = some true := by rfl
theorem kit_list_tuple : kitOne K (.type "list") (.type "tuple") = some false := by rfl
theorem kit_tuple_list : kitOne K (.type "tuple") (.type "list") = some false := by rfl
theorem kit_tuple_tuple : kitOne K (.type "tuple") (.type "tuple") = some true := by rfl
theorem kit_str_str : kitOne K (.type "str") (.type "str") = some true := by rfl
theorem kit_int_str : kitOne K (.type "int") (.type "str") = some false := by rfl
theorem kit_bool_str : kitOne K (.type "bool") (.type "str") = some false := by rfl
theorem kit_none_str : kitOne K (.type "NoneType") (.type "str") = some false := by rfl
theorem kit_bool_bool : kitOne K (.type "bool") (.type "bool") = some true := by rfl
theorem kit_int_bool : kitOne K (.type "int") (.type "bool") = some false := by rfl
theorem kit_none_bool : kitOne K (.type "NoneType") (.type "bool") = some false := by rfl
theorem kit_int_int : kitOne K (.type "int") (.type "int") = some true := by rfl
end

/-! ### pairs of things that bear one datum -/
def PairRel (G : Hp) (v : V) (d : D) : Prop := ∃ (q : Addr) (v1 v2 : V), v = .ref q ∧ G q = some (.tup [v1, v2]) ∧ Rep G v1 d ∧ Rep G v2 d
theorem PairRel.mono {G G' : Hp} (e : Same G G') {v : V} {d : D} (h : PairRel G v d) : PairRel G' v d := by
  obtain ⟨q, v1, v2, rfl, hq, r1, r2⟩ := h
  exact ⟨q, v1, v2, rfl, e _ _ hq, r1.mono e, r2.mono e⟩
/-- a path and the trees at it, as a pair -/
def JobRel (G : Hp) (v : V) (j : Job) : Prop := ∃ (q : Addr) (v1 v2 : V), v = .ref q ∧ G q = some (.tup [v1, v2]) ∧ Rep G v1 (pathD j.1) ∧ Rep G v2 (rowD j.2)
theorem JobRel.mono {G G' : Hp} (e : Same G G') {v : V} {j : Job} (h : JobRel G v j) : JobRel G' v j := by
  obtain ⟨q, v1, v2, rfl, hq, r1, r2⟩ := h
  exact ⟨q, v1, v2, rfl, e _ _ hq, r1.mono e, r2.mono e⟩
def PathRel (G : Hp) (v : V) (p : List Int) : Prop := Rep G v (pathD p)
theorem PathRel.mono {G G' : Hp} (e : Same G G') {v : V} {p : List Int} (h : PathRel G v p) : PathRel G' v p := Rep.mono e h
theorem paths_reps {G : Hp} : ∀ {vs : List V} {ps : List (List Int)}, Paired (PathRel G) vs ps → Reps G vs (ps.map pathD)
  | _, _, .nil => .nil
  | _, _, .cons r t => .cons r (paths_reps t)
end TT
namespace TT
open PySem PySem.Spec PyProof.Rows L2
section
variable {G H G2 H2 : Hp} {a : Addr} {o : HO}
/-- a list of ours that is not frozen is changed -/
theorem Ext.mut (x : Ext G H G2 H2) (n : G2 a = none) (nh : H a = none) : Ext G H G2 (upd H2 a o) := ⟨x.g, same_mut x.gh n, same_mut x.h nh, x.new⟩
end
theorem rel_path {G H : Hp} (s : Same G H) {v : V} {p : List Int} (r : PathRel G v p) : ∃ a, v = .ref a ∧ H a = some (.lst (p.map V.int)) := by
  obtain ⟨a, rfl, h⟩ := Rep.path r
  exact ⟨a, rfl, s _ _ h⟩
theorem subs_at (p : List Int) : ∀ (ts : List Tr) (j i : Nat) (h : i < ts.length), (subs p j ts)[i]? = some (p ++ [((j + i : Nat) : Int)], ts[i].kids)
  | t :: ts, j, 0, _ => by simp [subs]
  | t :: ts, j, i + 1, h => by
    have := subs_at p ts (j + 1) i (by simpa using h)
    rw [subs, List.getElem?_cons_succ, this]
    have e : j + 1 + i = j + (i + 1) := by omega
    rw [e]
    simp
theorem take_one {α : Type} {l : List α} {i : Nat} {x : α} (h : l[i]? = some x) : l.take (i + 1) = l.take i ++ [x] := by
  obtain ⟨hi, e⟩ := List.getElem?_eq_some_iff.mp h
  rw [List.take_succ_eq_append_getElem hi, e]
end TT
namespace TT
open PySem PySem.Spec PyProof.Rows L2
/-- the first part of each pair of a list -/
def FstRel (G : Hp) (v f : V) : Prop := ∃ (q : Addr) (s : V), v = .ref q ∧ G q = some (.tup [f, s])
theorem jobs_firsts {G : Hp} : ∀ {vs : List V} {js : List Job}, Paired (JobRel G) vs js → ∃ fs, Paired (FstRel G) vs fs ∧ Paired (PathRel G) fs (js.map (·.1))
  | _, _, .nil => ⟨[], .nil, .nil⟩
  | _, _, .cons r t => by
    obtain ⟨q, v1, v2, rfl, hq, r1, _⟩ := r
    obtain ⟨fs, h1, h2⟩ := jobs_firsts t
    exact ⟨v1 :: fs, .cons ⟨q, v2, rfl, hq⟩ h1, .cons r1 h2⟩
theorem deeper_snoc (L : List Job) (j : Job) : deeper (L ++ [j]) = deeper L ++ subs j.1 0 j.2 := by simp [deeper]
theorem deeper_len {L : List Job} {n : Nat} (h : ∀ j ∈ L, j.1.length ≤ n) : ∀ j ∈ deeper L, j.1.length ≤ n + (deeper L).length := by
  intro j hj
  obtain ⟨i, hi, hm⟩ := List.mem_flatMap.mp hj
  have h1 := h i hi
  have h2 : 1 ≤ (deeper L).length := List.length_pos_of_mem hj
  obtain ⟨k, hk, ek⟩ := List.mem_iff_getElem.mp hm
  have hk2 : k < i.2.length := by rw [subs_length] at hk; exact hk
  have e1 := subs_at i.1 i.2 0 k hk2
  rw [List.getElem?_eq_getElem hk, ek] at e1
  have e2 := Option.some.inj e1
  rw [e2]
  show (i.1 ++ [_]).length ≤ _
  rw [List.length_append, List.length_singleton]
  omega
end TT
namespace TT
open PySem
theorem bt_list : bootBuiltins "list" = some (.type "list") := by decide +kernel
theorem bt_tuple : bootBuiltins "tuple" = some (.type "tuple") := by decide +kernel
theorem bt_len : bootBuiltins "len" = some (.builtin "len") := by decide +kernel
theorem bt_min : bootBuiltins "min" = some (.builtin "min") := by decide +kernel
theorem bt_abs : bootBuiltins "abs" = some (.builtin "abs") := by decide +kernel
theorem bt_sum : bootBuiltins "sum" = some (.builtin "sum") := by decide +kernel
theorem bt_sorted : bootBuiltins "sorted" = some (.builtin "sorted") := by decide +kernel
theorem bt_isinstance : bootBuiltins "isinstance" = some (.builtin "isinstance") := by decide +kernel
theorem bt_str : bootBuiltins "str" = some (.type "str") := by decide +kernel
theorem bt_int : bootBuiltins "int" = some (.type "int") := by decide +kernel
theorem bt_bool : bootBuiltins "bool" = some (.type "bool") := by decide +kernel
end TT
namespace TT
open PySem PySem.Spec PyProof.Rows L2
/-- a built-in type as a value -/
theorem pe_ty {X : Cx} {x : Str} {n : String} {pos : Pos} (hg : Gl X x) (hm : X.mg x = none) (hv : bootBuiltins x = some (.type n)) (hn : x ≠ "__name__" := by decide) (hd : (x == ("__debug__" : Str)) = false := by decide) : PE X (.Name x pos) (tC (.ty n)) :=
  pe_bltn hg hm hv (v := .ty n) rfl hn hd
end TT
namespace TT
open PySem PySem.Spec PyProof.Rows L2

/-! ### an exception on its way: how it lies -/
/-- the record at x, of class cls, with its trace's record: both new since h0, neither tracked -/
structure Fly (h h0 : Heap) (H' : Hp) (x : Addr) (cls : Value) : Prop where
  n0 : h0.get? x = none
  nH : H' x = none
  ex : ∃ (oe : Obj) (vs : Array Value) (T : Addr) (oT : Obj) (ts : Array Value) (a0 : Value), h0.get? T = none ∧ H' T = none ∧ h.get? x = some oe ∧ (oe.cls = cls ∧ vs[0]? = some a0) ∧ oe.data = .fields vs ∧ vs[1]? = some (.ref T) ∧ T ≠ x ∧ h.get? T = some oT ∧ oT.data = .fields ts ∧ ts[3]? = some .none
/-- an exception that has left the frames above outer -/
def CXr (P : Program) (w : World) : CXT := fun outer H s E e s' => ∃ (x : Addr) (cls : Value) (H' : Hp), e = .ref x ∧ s'.os = s.os ∧ AllBare s'.gens ∧ Un (frs outer) [] H H' s.heap s'.heap ∧ HOk P w H' s'.heap ∧ Fly s'.heap s.heap H' x cls ∧ E cls none H'

theorem obj_there {P : Program} {w : World} {H : Hp} {h : Heap} {a : Addr} {o : HO} (x : ObjOk P w H h a o) : ∃ ob, h.get? a = some ob := by
  cases o with
  | lst xs => obtain ⟨_, _, _, _, e⟩ := x; exact ⟨_, e⟩
  | tup xs => obtain ⟨_, _, _, o, e, _⟩ := x; exact ⟨_, e⟩
  | dK kvs => obtain ⟨_, _, _, _, o, _, _, e, _⟩ := x; exact ⟨_, e⟩
  | dT kvs => obtain ⟨_, _, _, _, o, _, _, e, _⟩ := x; exact ⟨_, e⟩
  | set S n => obtain ⟨o, _, _, _, e, _⟩ := x; exact ⟨_, e⟩
  | ins C dx fs => obtain ⟨_, _, _, e, _⟩ := x; exact ⟨_, e⟩
  | own y => exact x
  | xd fs => obtain ⟨_, ⟨_, _, _, e, _⟩, _⟩ := x; exact ⟨_, e⟩
  | rng lo hi => obtain ⟨_, _, _, e⟩ := x; exact ⟨_, e⟩
  | frz ob u => obtain ⟨e, _⟩ := x; exact ⟨_, e⟩
  | tbl ps => exact ⟨_, x⟩
  | met f y => exact ⟨_, x⟩
  | ext φ => exact x.2.1

section
variable {X : Cx} {pins : List (Addr × Obj)} {σ : L2.St} {H : Hp} {s : Shared}
/-- a frame that runs is no record -/
theorem frame_rec {base h : Heap} {l : List Env} {b : Addr} {o : Obj} {vs : Array Value} (F : h.FunFrames base l) (hb : b ∈ frs l) (e : h.get? b = some o) (d : o.data = .fields vs) : False := by
  obtain ⟨_, o', e', n⟩ := F.mem hb
  rw [e] at e'
  cases e'
  exact n vs d
/-- behind an exception: only the record, its trace and the frames of l may have changed -/
theorem hok_behind {P : Program} {w : World} {H' : Hp} {h h' : Heap} {l : List Addr} (ok : HOk P w H' h) (n : ∀ b ∈ l, H' b = none) (k : (PySem.W.hideAll h l).StaysIn h') : HOk P w H' h' := fun b u e =>
  (ok b u e).stay (fun c v hc q => k c v (PySem.W.hideAll_get l q fun hm => by
    have z := n c hm
    rcases hc with rfl | hc
    · rw [z] at e; cases e
    · rw [z] at hc; cases hc)) (fun _ q => q) fun _ _ q => q
end
end TT
namespace TT
open PySem PySem.Spec PyProof.Rows L2

/-- a context that is a def's own frame -/
structure Own (X : Cx) : Prop where
  st : X.stack = X.env :: X.outer
  fr : X.env.frame = some X.env.locals
  ex : X.ex = []

section
variable {X : Cx} {pins : List (Addr × Obj)} {σ : L2.St} {H : Hp} {s : Shared} {E E' : XK}
theorem mem_frs {l : List Env} : ∀ env ∈ l, ∀ b, env.frame = some b → b ∈ frs l := fun env he b hb => List.mem_filterMap.mpr ⟨env, he, hb⟩
theorem Own.free (O : Own X) (I : Inv X pins σ H s) {b : Addr} (hb : b ∈ frs (X.env :: X.outer)) : H b = none := I.stkFree b (by rw [O.st]; exact hb)
theorem Own.fs (O : Own X) {b : Addr} (hb : b ∈ frs (X.env :: X.outer)) : b = X.env.locals ∨ b ∈ X.fs := by
  unfold frs at hb
  rw [List.filterMap_cons, O.fr] at hb
  exact List.mem_cons.mp hb
theorem Own.old (O : Own X) (I : Inv X pins σ H s) {b : Addr} {o : Obj} (e : X.s₀.heap.get? b = some o) : ∃ o', s.heap.get? b = some o' := I.base.there b o e (by rw [O.ex]; simp)
/-- the end of both: the record lies at x, its trace at T'; all else of h but the frames is kept -/
theorem left_at (O : Own X) (J : Inv X pins σ H s) {h' : Heap} {l : List Addr} {x : Addr} {cls a0 : Value} (nH : ∀ b ∈ l, H b = none) (n0 : ∀ b ∈ l, X.s₀.heap.get? b = none ∨ b ∈ X.fs) (nx0 : X.s₀.heap.get? x = none) (nxH : H x = none)
    (fl : Heap.FlyingW (PySem.W.hideAll s.heap l) X.outer x cls a0 h') (up : s.heap.UpToSlots h') (q : E' cls none H) :
    CXr X.prog X.w X.outer X.H₀ X.s₀ E' (.ref x) { s with heap := h' } := by
  obtain ⟨st, nb, ff, oe, vs, T, oT, ts, hx, hc, hd, h1, nT, hTx, hT, hdT, h3⟩ := fl
  have inl : ∀ b o, s.heap.get? b = some o → (PySem.W.hideAll s.heap l).get? b = none → b ∈ l := fun b o e n => by
    by_cases hm : b ∈ l
    · exact hm
    · rw [PySem.W.hideAll_get l e hm] at n
      cases n
  have nTH : H T = none := by
    cases e : H T with
    | none => rfl
    | some o =>
      obtain ⟨ob, eb⟩ := obj_there (J.hok T o e)
      have := nH T (inl T ob eb nT)
      rw [e] at this
      cases this
  have nT0 : X.s₀.heap.get? T = none := by
    cases e : X.s₀.heap.get? T with
    | none => rfl
    | some o =>
      obtain ⟨o', eo⟩ := O.old J e
      rcases n0 T (inl T o' eo nT) with z | z
      · rw [e] at z; cases z
      · exact (frame_rec ff z hT hdT).elim
  have keep : ∀ b o, X.s₀.heap.get? b = some o → b ∉ X.fs → s.heap.get? b = some o → h'.get? b = some o := fun b o e nf es => by
    refine st b o (PySem.W.hideAll_get l es fun hm => ?_)
    rcases n0 b hm with z | z
    · rw [e] at z; cases z
    · exact nf z
  have noex : ∀ b : Addr, b ∉ X.ex := fun b => by rw [O.ex]; simp
  refine ⟨x, cls, H, rfl, J.os, J.bare, ⟨fun b o e n nf _ => ?_, fun b o e n hf _ => ?_, fun b o e n _ => J.base.free b o e n (noex b), fun b o e _ => ?_, J.base.tups, J.base.frzs, J.base.tbls⟩, hok_behind J.hok nH st, ⟨nx0, nxH, oe, vs, T, oT, ts, a0, nT0, nTH, hx, hc, hd, h1, hTx, hT, hdT, h3⟩, q⟩
  · exact keep b o e nf (J.base.keep b o e n nf (noex b))
  · obtain ⟨sl, e1⟩ := J.base.slot b o e n hf (noex b)
    have nr : ∀ vs, o.data ≠ .fields vs := fun vs d => frame_rec J.ok.funs hf e d
    obtain ⟨sl', e2⟩ := up b _ e1 nr
    exact ⟨sl', e2⟩
  · obtain ⟨o', e1⟩ := J.base.there b o e (noex b)
    by_cases hm : b ∈ l
    · rcases n0 b hm with z | z
      · rw [e] at z; cases z
      · obtain ⟨_, o2, e2, _⟩ := ff.mem z
        exact ⟨o2, e2⟩
    · exact ⟨o', st b o' (PySem.W.hideAll_get l e1 hm)⟩
/-- an exception of a callee leaves this frame too -/
theorem leave_on (O : Own X) {e : Value} {s' : Shared} {E2 : Value → Shared → Prop} (I : Inv X pins σ H s) (h : CXr X.prog X.w X.stack H s E e s') (hE : ∀ cls H', E cls none H' → E' cls none H') :
    wpAny (model X.prog X.w) X.A (leaving X.env e) (fun _ s'' => CXr X.prog X.w X.outer X.H₀ X.s₀ E' e s'') E2 s' := by
  obtain ⟨x, cls, H', rfl, os, bare, un, hok, ⟨n0, nH, oe, vs, T, oT, ts, a0, nT0, nTH, hx, hc, hd, h1, hTx, hT, hdT, h3⟩, q⟩ := h
  have J : Inv X pins σ H' s' := I.call' (ch := []) os un hok bare (fun _ z => nomatch z)
  have ff : s'.heap.FunFrames X.base (X.env :: X.outer) := O.st ▸ J.stack
  have hfr : X.A.frames = some (X.env :: X.outer) := O.st ▸ J.ok.frames
  have new0 : ∀ b, s.heap.get? b = none → X.s₀.heap.get? b = none := fun b z => by
    cases e : X.s₀.heap.get? b with
    | none => rfl
    | some o =>
      obtain ⟨o', eo⟩ := O.old I e
      rw [z] at eo; cases eo
  refine wpAny_leaves_onW (base := PySem.W.hideAll s'.heap (x :: T :: frs (X.env :: X.outer))) (cls := cls) (a0 := a0) hfr O.fr
    ⟨fun b o e => PySem.W.of_hideAll _ e, PySem.W.hideAll_none _ List.mem_cons_self, PySem.W.funFrames_hide ff fun env he b hb => List.mem_cons_of_mem _ (List.mem_cons_of_mem _ (mem_frs env he b hb)),
      oe, vs, T, oT, ts, hx, hc, hd, h1, PySem.W.hideAll_none _ (List.mem_cons_of_mem _ List.mem_cons_self), hTx, hT, hdT, h3⟩ fun h' fl up => ?_
  refine left_at O J (l := x :: T :: frs (X.env :: X.outer)) (fun b hb => ?_) (fun b hb => ?_) (new0 x n0) nH fl up (hE _ _ q)
  · rcases List.mem_cons.mp hb with rfl | hb
    · exact nH
    · rcases List.mem_cons.mp hb with rfl | hb
      · exact nTH
      · exact O.free J hb
  · rcases List.mem_cons.mp hb with rfl | hb
    · exact .inl (new0 _ n0)
    · rcases List.mem_cons.mp hb with rfl | hb
      · exact .inl (new0 _ nT0)
      · rcases O.fs hb with rfl | hb
        · exact .inl (Heap.get?_none_of_le J.ok.above)
        · exact .inr hb
/-- an exception made here leaves this frame -/
theorem leave_made (O : Own X) {x : Addr} {cls : Value} {args : List Value} {h1 : Heap} {E2 : Value → Shared → Prop} (I : Inv X pins σ H s) (m : Heap.MadeExcOf s.heap h1 x cls args) (q : E' cls none H) :
    wpAny (model X.prog X.w) X.A (leaving X.env (.ref x)) (fun _ s'' => CXr X.prog X.w X.outer X.H₀ X.s₀ E' (.ref x) s'') E2 { s with heap := h1 } := by
  have ff : s.heap.FunFrames X.base (X.env :: X.outer) := O.st ▸ I.stack
  have hfr : X.A.frames = some (X.env :: X.outer) := O.st ▸ I.ok.frames
  refine wpAny_leaves_madeW (base := PySem.W.hideAll s.heap (frs (X.env :: X.outer))) hfr O.fr (fun b o e => PySem.W.of_hideAll _ e) (PySem.W.funFrames_hide ff mem_frs) m fun h' t fl _ _ up => ?_
  have nx : H x = none := by
    cases e : H x with
    | none => rfl
    | some o =>
      obtain ⟨ob, eb⟩ := obj_there (I.hok x o e)
      rw [m.new] at eb; cases eb
  have nx0 : X.s₀.heap.get? x = none := by
    cases e : X.s₀.heap.get? x with
    | none => rfl
    | some o =>
      obtain ⟨o', eo⟩ := O.old I e
      rw [m.new] at eo; cases eo
  refine left_at O I (l := frs (X.env :: X.outer)) (fun b hb => O.free I hb) (fun b hb => ?_) nx0 nx fl ((Heap.UpToSlots.of_keeps m.keeps).trans up) q
  rcases O.fs hb with rfl | hb
  · exact .inl (Heap.get?_none_of_le I.ok.above)
  · exact .inr hb
end

/-! ### the class of an exception -/
theorem exc_obj {K : PySem.W.Frag} {h : Heap} {C : Addr} {bmB : List Value} {newId : String} (X : K.In h) (q : PySem.W.excIn K C bmB newId = true) :
    ∃ bm ns nm qn bs hd sn sub ab col dd k0 k1 k2 k3 k5 mN, h.get? C = some (excClassObj nm qn C ns bs bm hd sn sub ab col dd k0 k1 k2 k3 k5 newId) ∧ h.Ns ns mN ∧ mN "__init__" = none ∧ OwnTail h bmB bm := by
  unfold PySem.W.excIn at q
  split at q
  · rename_i dd cd sl ho
    split at q
    · rename_i C' bm k0 k1 k2 k3 n k5 hm hs
      simp only [Bool.and_eq_true, beq_iff_eq, Bool.not_eq_true'] at q
      obtain ⟨⟨⟨⟨⟨rfl, rfl⟩, hdel⟩, ht⟩, hok⟩, hni⟩ := q
      obtain ⟨nm, bs, mro, ns, qn, hd, sn, sub, ab, col, del⟩ := cd
      dsimp only at hm hdel hok hni
      subst hm hdel
      have hsl : sl = #[k0, k1, k2, k3, some (.builtin n), k5] := by
        obtain ⟨l⟩ := sl
        simp only at hs
        rw [hs]
      subst hsl
      exact ⟨bm, ns, nm, qn, bs, hd, sn, sub, ab, col, dd, k0, k1, k2, k3, k5, _, X _ _ ho, .of_isNs (PySem.W.isNs_of_in X hok), PySem.W.nsMap_none_of_in X hok hni, PySem.W.tail_of_in X ht⟩
    · cases q
  · cases q

/-! ### raise -/
/-- the classes below ValueError -/
abbrev veMro : List Value := [.type "ValueError", .type "Exception", .type "BaseException", .type "object"]
def ExcV (K : PySem.W.Frag) (C : Addr) : Prop := PySem.W.excIn K C veMro "ValueError.__new__" = true
/-- what an exception made here must come to -/
def Raises (X : Cx) (E : XK) : Prop := ∀ (pins : List (Addr × Obj)) (σ : L2.St) (H : Hp) (s : Shared) (x : Addr) (cls : Value) (args : List Value) (h1 : Heap), Inv X pins σ H s → Heap.MadeExcOf s.heap h1 x cls args → E cls none H → X.xe (.ref x) { s with heap := h1 }
def tRaise (C : Addr) (E : XK) (t : TA) : TS := fun _ σ H => t σ H fun vs H1 => vs.length ≤ sizeLine ∧ E (.ref C) none H1
theorem ps_raise {X : Cx} {E : XK} {C : Addr} {x : Str} {np cpos pos : Pos} {e : Expr} {es : List Expr} {t : TA} (hR : Raises X E) (hC : ExcV X.K C) (hc : X.calm = true) (hg : Gl X x) (hm : X.mg x = some (.ref C)) (ha : PA X (e :: es) t)
    (hdb : (x == ("__debug__" : Str)) = false := by decide) (he : starEach (e :: es) X.env = (false, eval e X.env) :: starEach es X.env := by rfl) (hpl : (backTo cpos (starEach es X.env)).any (·.1) = false := by rfl) :
    PS X (.Raise (some (.Call (.Name x np) (e :: es) [] cpos)) none pos) (tRaise C E t) := by
  intro pins s σ H D I h
  obtain ⟨bm, ns, nm, qn, bs, hd, sn, sub, ab, col, dd, k0, k1, k2, k3, k5, mN, hCo, hN, hni, hT⟩ := exc_obj I.ok.mod.kin hC
  have hbase : bm.contains (.type "BaseException") = true := hT.hasType PySem.F.excBase_ValueError.hasBase
  refine wpAny_Raise_call_subT (C := C) (nm := nm) (q := qn) (N := ns) (bs := bs) (bm := bm) (hdct := hd) (sn := sn) (sub := sub) (ab := ab) (col := col) (dd := dd) (k0 := k0) (k1 := k1) (k2 := k2) (k3 := k3) (k5 := k5) PySem.F.excBase_ValueError (mN := mN) hbase (I.ok.hd hc) (by rw [he]; show (false || (backTo cpos (starEach es X.env)).any (·.1)) = false; rw [hpl]; rfl) hni (ld_glob I hg hm ⟨rfl, ?_⟩ hdb)
  have hp := ha cpos pins s σ H _ I h
  rw [he] at hp ⊢
  refine Calls.evalArgs_plain (thn hp fun us s1 ⟨vs, H1, I1, r, hl, q⟩ => ⟨rfl, ?_, I1.bk _ _ hCo, hN.keeps I1.bk, hT.keeps I1.bk, fun h' x m => ?_⟩)
  · show us.length ≤ sizeLine
    rw [← r.length]; exact hl
  · exact hR pins σ H1 s1 x _ _ h' I1 m q
end TT
namespace TT
open PySem PySem.Spec PyProof.Rows L2

/-! ### defs that may raise -/
section
variable {P : Program} {w : World} {K : PySem.W.Frag} {mg : Str → Option Value} {base : Heap} {N : List Str} {qual : Str} {scope : Scope} {f : Addr} {cd : Value} {A : Around} {outer : List Env} {s : Shared} {H : Hp} {E : XK}
theorem own_cx {CX : CXT} : Own (cxOf CX P w K mg base N qual scope f cd A outer s H E) := ⟨rfl, rfl, rfl⟩
theorem raises_cx : Raises (cxOf (CXr P w) P w K mg base N qual scope f cd A outer s H E) E := fun _ _ _ _ _ _ _ _ I m q => leave_made own_cx I m q
theorem passes_cx : Passes (CXr P w) (cxOf (CXr P w) P w K mg base N qual scope f cd A outer s H E) E := fun _ _ _ _ _ _ I h => leave_on own_cx I h fun _ _ q => q
theorem turns_cx {CX : CXT} : PassesOwn (model P w) (cxOf CX P w K mg base N qual scope f cd A outer s H E).A (cxOf CX P w K mg base N qual scope f cd A outer s H E).env (cxOf CX P w K mg base N qual scope f cd A outer s H E).xe := PassesOwn.leaving
end
theorem passR0 {X : Cx} : Passes (CXr X.prog X.w) X E0 := fun _ _ _ _ _ _ _ h => by
  obtain ⟨_, _, _, _, _, _, _, _, _, q⟩ := h
  exact q.elim
section
variable {P : Program} {w : World} {K : PySem.W.Frag} {mg : Str → Option Value} {base : Heap}
theorem fun_okR {x qual : Str} {st : Stmt} {f : Addr} {fd : FuncData} {N ps : List Str} {k : Nat} {sp : Sp} (F : Fun K x qual st f fd) (S : FnScope N ps (defScope st)) (len : ∀ vs H Q E, sp vs H Q E → vs.length = ps.length)
    (hbody : ∀ (cdv : Value) (A : Around) (outer : List Env) (s : Shared) (H : Hp) (vs : List V) (Q : VK) (E : XK), Room k (A.deeper (envOfC qual (defScope st) s.heap.objs.size f cdv)) → sp vs H Q E →
      ∃ t, PSs (cxOf (CXr P w) P w K mg base N qual (defScope st) f cdv A outer s H E) (defBody st) t ∧ t { nx := fun _ H' => Q .non H', rt := Q } (start N vs) H) : FnOk P w K mg base (CXr P w) (k + 1) f fd ps sp := by
  obtain ⟨oc, od, kV, doc, pm, an, cdv, ct, osl, rfl, lk, hcd⟩ := F.ex
  exact fn_of lk hcd S len fun A outer s H vs Q E hr hsp => hbody cdv A outer s H vs Q E hr hsp
end
structure OkR (P : Program) (w : World) (K : PySem.W.Frag) (mg : Str → Option Value) (base : Heap) (k : Nat) (x : Str) (ps : List Str) (sp : Sp) : Prop where
  ex : ∃ (f : Addr) (fd : FuncData), FnOk P w K mg base (CXr P w) k f fd ps sp ∧ mg x = some (.ref f) ∧ PySem.W.keepIn K (.ref f) = true ∧ Binds K fd ps []
theorem pe_fnR {X : Cx} {k : Nat} {x : Str} {ps : List Str} {sp : Sp} {E : XK} {e : Expr} {es : List Expr} {t : TA} {p pos : Pos} (F : OkR X.prog X.w X.K X.mg X.base k x ps sp) (hx : Passes (CXr X.prog X.w) X E) (hr : Room k X.A) (hg : Gl X x) (ha : PA X (e :: es) t)
    (hdb : (x == ("__debug__" : Str)) = false := by decide) (he : starEach (e :: es) X.env = (false, eval e X.env) :: starEach es X.env := by rfl) (hpl : (backTo pos (starEach es X.env)).any (·.1) = false := by rfl) :
    PE X (.Call (.Name x p) (e :: es) [] pos) (tCall sp [] E t) := by
  obtain ⟨f, fd, F, hm, hk, hb⟩ := F.ex
  exact pe_call F hr hg hm hk hb .nil hx ha hdb he hpl

/-! ### an exception seen by this frame -/
section
variable {X : Cx} {pins : List (Addr × Obj)} {σ : L2.St} {H H' : Hp} {s s' : Shared}
/-- all but the record, its trace and the running frames' slots is kept -/
theorem inv_behind (I : Inv X pins σ H s) (J : Inv X pins σ H' s') {x T : Addr} {h' : Heap} {t' : Nat} (nx : s.heap.get? x = none) (nT : s.heap.get? T = none) (hx : H' x = none) (hT : H' T = none)
    (st : (PySem.W.hideAll s'.heap (x :: T :: frs X.stack)).StaysIn h') (up : s'.heap.UpToSlots h') : Inv X pins σ H' { s' with heap := h', toks := t' } := by
  have old : ∀ b o, s.heap.get? b = some o → b ≠ x ∧ b ≠ T := fun b o e => ⟨(fun z => by rw [z, nx] at e; cases e), (fun z => by rw [z, nT] at e; cases e)⟩
  have notin : ∀ b o, s.heap.get? b = some o → b ∉ frs X.stack → b ∉ x :: T :: frs X.stack := fun b o e n hm => by
    rcases List.mem_cons.mp hm with z | hm
    · exact (old b o e).1 z
    · rcases List.mem_cons.mp hm with z | hm
      · exact (old b o e).2 z
      · exact n hm
  have old0 : ∀ b o, X.s₀.heap.get? b = some o → b ∉ X.ex → ∃ o', s.heap.get? b = some o' := fun b o e hx => I.base.there b o e hx
  have cellK : ∀ c v, s'.heap.IsCell c v → h'.IsCell c v := fun c v ⟨o, ho, hd⟩ => by
    obtain ⟨sl, e⟩ := up c o ho fun vs q => by rw [hd] at q; cases q
    exact ⟨_, e, hd⟩
  refine ⟨J.ok, J.os, J.bare, ⟨fun b o e n hb hx => ?_, fun b o e n hb hx => ?_, J.base.free, fun b o e hx => ?_, J.base.tups, J.base.frzs, J.base.tbls⟩, ?_, fun y c e => ?_, J.free, J.freeC, fun p hp => ?_, hok_behind (l := x :: T :: frs X.stack) J.hok (fun b hb => ?_) st, J.len⟩
  · obtain ⟨o', e'⟩ := old0 b o e hx
    refine st b o (PySem.W.hideAll_get _ (J.base.keep b o e n hb hx) (notin b o' e' fun hm => ?_))
    rcases List.mem_cons.mp (I.stkSub b hm) with z | z
    · exact Nat.ne_of_lt (Nat.lt_of_lt_of_le (Heap.lt_size e) I.ok.above) z
    · exact hb z
  · obtain ⟨sl, e1⟩ := J.base.slot b o e n hb hx
    obtain ⟨sl', e2⟩ := up b _ e1 fun vs d => frame_rec J.ok.funs hb e d
    exact ⟨sl', e2⟩
  · obtain ⟨o1, e1⟩ := J.base.there b o e hx
    obtain ⟨o', e'⟩ := old0 b o e hx
    by_cases hm : b ∈ frs X.stack
    · obtain ⟨_, o2, e2, n2⟩ := J.stack.mem hm
      obtain ⟨sl, e3⟩ := up b o2 e2 n2
      exact ⟨_, e3⟩
    · exact ⟨o1, st b o1 (PySem.W.hideAll_get _ e1 (notin b o' e' hm))⟩
  · obtain ⟨m, hn, hl⟩ := J.loc
    refine ⟨m, up.ns hn, fun i y v e1 e2 e3 => ?_⟩
    obtain ⟨u, r, l⟩ := hl i y v e1 e2 e3
    refine ⟨u, r, ?_⟩
    rcases l with l | ⟨k, c, e, z⟩
    · exact .inl l
    · exact .inr ⟨k, c, e, cellK c _ z⟩
  · obtain ⟨v, z⟩ := J.cell y c e
    exact ⟨v, cellK c v z⟩
  · obtain ⟨e, n, ne, nf, d⟩ := J.pin p hp
    have e0 := (I.pin p hp).1
    refine ⟨st p.1 p.2 (PySem.W.hideAll_get _ e (notin p.1 p.2 e0 fun hm => ?_)), n, ne, nf, d⟩
    rcases List.mem_cons.mp (I.stkSub p.1 hm) with z | z
    · exact ne z
    · exact nf z
  · rcases List.mem_cons.mp hb with z | hb
    · rw [z]; exact hx
    · rcases List.mem_cons.mp hb with z | hb
      · rw [z]; exact hT
      · exact J.stkFree b hb
end

/-- the context of an except suite: the record of the caught one stands at x -/
def inH (X : Cx) (x : Addr) (oe : Obj) : Cx := { X with A := X.A.mark (some (.ref x)), calm := false, pn := (x, oe) :: X.pn, xe := fun _ _ => False }
section
variable {X : Cx} {pins : List (Addr × Obj)} {σ : L2.St} {H : Hp} {s : Shared} {x : Addr} {oe : Obj}
theorem ok_inH (ok : X.Ok) : (inH X x oe).Ok := ⟨ok.mod, ok.kind, ok.glob, ok.blt, ok.above, ok.inj, ok.has, ok.cab, (fun z => (nomatch z)), ok.frames, ok.stk, ok.exf, ok.bs, ok.bsz, ok.noex, ok.exfs, ok.funs, ok.frf⟩
theorem inv_inH (I : Inv X pins σ H s) {vs : Array Value} (e : s.heap.get? x = some oe) (n : H x = none) (d : oe.data = .fields vs) : Inv (inH X x oe) pins σ H s :=
  ⟨ok_inH I.ok, I.os, I.bare, I.base, I.loc, I.cell, I.free, I.freeC, fun p hp => by
    rcases List.mem_cons.mp (show p ∈ (x, oe) :: (X.pn ++ pins) from hp) with rfl | hp
    · refine ⟨e, n, fun z => ?_, fun z => frame_rec I.funs z e d, fun v q => by rw [d] at q; cases q⟩
      obtain ⟨m, ⟨o, es, ep, ho, hd, _⟩, _⟩ := I.loc
      have z : x = X.env.locals := z
      rw [← z, e] at ho
      cases ho
      rw [d] at hd
      cases hd
    · exact I.pin p hp, I.hok, I.len⟩
theorem inv_outH (ok : X.Ok) (I : Inv (inH X x oe) pins σ H s) : Inv X pins σ H s :=
  ⟨ok, I.os, I.bare, I.base, I.loc, I.cell, I.free, I.freeC, fun p hp => I.pin p (List.mem_cons_of_mem _ hp), I.hok, I.len⟩
theorem sp_outH (ok : X.Ok) {D : Ends} {f : Flow} (h : SP (inH X x oe) pins D f s) : SP X pins D f s := by
  cases f with
  | next => obtain ⟨σ', H', I, q⟩ := h; exact ⟨σ', H', inv_outH ok I, q⟩
  | brk => obtain ⟨σ', H', I, q⟩ := h; exact ⟨σ', H', inv_outH ok I, q⟩
  | cont => obtain ⟨σ', H', I, q⟩ := h; exact ⟨σ', H', inv_outH ok I, q⟩
  | ret u => obtain ⟨v, σ', H', I, r, q⟩ := h; exact ⟨v, σ', H', inv_outH ok I, r, q⟩
end

/-! ### what stands under try: one call, its value kept or dropped -/
/-- the body's end: as ever, or an exception that this frame's names did not see -/
def Caught (X : Cx) (pins : List (Addr × Obj)) (σ : L2.St) (E : Value → Hp → Prop) (e : Value) (s' : Shared) : Prop :=
  ∃ (x : Addr) (cls : Value) (H H' : Hp) (s : Shared), e = .ref x ∧ Inv X pins σ H s ∧ Inv X pins σ H' s' ∧ Fly s'.heap s.heap H' x cls ∧ E cls H'
abbrev TB := Ends → (Value → Hp → Prop) → L2.St → Hp → Prop
def PB (X : Cx) (sts : List Stmt) (t : TB) : Prop :=
  ∀ (pins : List (Addr × Obj)) (s : Shared) (σ : L2.St) (H : Hp) (D : Ends) (E : Value → Hp → Prop), Inv X pins σ H s → t D E σ H → wpAny (model X.prog X.w) X.A (execs sts X.env) (SP X pins D) (Caught X pins σ E) s
section
variable {X : Cx} {k : Nat} {sp : Sp} {ps : List Str} {f : Str} {e : Expr} {es : List Expr} {t : TA} {p pos : Pos}
/-- the call itself -/
theorem call_caught {pins : List (Addr × Obj)} {s : Shared} {σ : L2.St} {H : Hp} {Q : VK} {E : Value → Hp → Prop} (F : OkR X.prog X.w X.K X.mg X.base k f ps sp) (hr : Room k X.A) (hg : Gl X f) (ha : PA X.nox (e :: es) t) (I : Inv X pins σ H s)
    (h : t σ H fun vs H1 => sp vs H1 Q (fun cls _ H2 => E cls H2))
    (hdb : (f == ("__debug__" : Str)) = false := by decide) (he : starEach (e :: es) X.env = (false, eval e X.env) :: starEach es X.env := by rfl) (hpl : (backTo pos (starEach es X.env)).any (·.1) = false := by rfl) :
    wpAny (model X.prog X.w) X.A (eval (.Call (.Name f p) (e :: es) [] pos) X.env) (EP X pins σ Q) (Caught X pins σ E) s := by
  obtain ⟨fa, fd, F, hm, hk, hb⟩ := F.ex
  refine wpAny_Call_Name_kw (ld_glob I hg hm ?_ hdb)
  refine PySem.W.callWith_K (h₀ := X.base) I.ok.mod.kin hk (wpAny_mono (ha pos pins s σ H _ (I.wish _) h) (fun us s1 ⟨vs, H1, I1, r, q⟩ => ⟨I1.kIn, ?_⟩) fun _ _ z => False.elim z) he hpl
  have I1 := I1.unwish
  have hl : us.length = ps.length := by rw [← r.length]; exact F.len _ _ _ _ q
  refine wpAny_call (codeAny_mono (F.run X.A X.stack s1 H1 ⟨us, []⟩ (us ++ []) vs Q _ hr I1.env0 (hb s1 us I1.kIn (by rw [List.append_nil]; exact hl)) (by rw [List.append_nil]; exact r) q) fun r s' hq => ?_)
  cases r with
  | error e =>
    obtain ⟨x, cls, H', rfl, os, bare, un, hok, fl, q⟩ := hq
    exact ⟨x, cls, H1, H', s1, rfl, I1, I1.call' (ch := []) os un hok bare (fun _ z => nomatch z), fl, q⟩
  | ok fl =>
    cases fl with
    | ret u => exact I1.after hq
    | next => exact False.elim hq
    | brk => exact False.elim hq
    | cont => exact False.elim hq
/-- f(..) under try -/
def tbDrop (sp : Sp) (t : TA) : TB := fun D E σ H => t σ H fun vs H1 => sp vs H1 (fun _ H2 => D.nx σ H2) (fun cls _ H2 => E cls H2)
theorem pb_drop {pos2 : Pos} (F : OkR X.prog X.w X.K X.mg X.base k f ps sp) (hr : Room k X.A) (hg : Gl X f) (ha : PA X.nox (e :: es) t)
    (hdb : (f == ("__debug__" : Str)) = false := by decide) (he : starEach (e :: es) X.env = (false, eval e X.env) :: starEach es X.env := by rfl) (hpl : (backTo pos (starEach es X.env)).any (·.1) = false := by rfl)
    (hs : swapsWith (.Call (.Name f p) (e :: es) [] pos) none pos2.line X.env = pure false := by rfl) : PB X [.Expr (.Call (.Name f p) (e :: es) [] pos) pos2] (tbDrop sp t) := by
  intro pins s σ H D E I h
  refine wpAny_execs_cons (wpAny_Expr_any (thn (call_caught F hr hg ha I h hdb he hpl) fun v s1 ⟨x, H1, I1, r1, q1⟩ => ?_) I.quiet hs)
  exact wpAny_execs_nil ⟨σ, H1, I1, q1⟩
/-- x = f(..) under try -/
def tbSet (i : Nat) (sp : Sp) (t : TA) : TB := fun D E σ H => t σ H fun vs H1 => sp vs H1 (fun v H2 => D.nx (σ.set i (some v)) H2) (fun cls _ H2 => E cls H2)
theorem pb_set {i : Nat} {y : Str} {pos2 pos' : Pos} (hN : X.N.Nodup) (hi : X.N[i]? = some y) (hy : Loc X.env.scope y) (F : OkR X.prog X.w X.K X.mg X.base k f ps sp) (hr : Room k X.A) (hg : Gl X f) (ha : PA X.nox (e :: es) t)
    (hdb : (f == ("__debug__" : Str)) = false := by decide) (he : starEach (e :: es) X.env = (false, eval e X.env) :: starEach es X.env := by rfl) (hpl : (backTo pos (starEach es X.env)).any (·.1) = false := by rfl)
    (hs : swapsWith (.Call (.Name f p) (e :: es) [] pos) (some (.Name y pos')) pos2.line X.env = pure false := by rfl) (hf : X.fn y = true ∨ X.env.scope.names.lookup y = some .local := by first | exact .inl rfl | exact .inr rfl | assumption) :
    PB X [.Assign [.Name y pos'] (.Call (.Name f p) (e :: es) [] pos) pos2] (tbSet i sp t) := by
  intro pins s σ H D E I h
  refine wpAny_execs_cons (wpAny_Assign_Name (thn (call_caught F hr hg ha I h hdb he hpl) fun v s1 ⟨x, H1, I1, r1, q1⟩ => ?_) hs)
  exact store_ok I1 hN hi hy r1 (fun s2 I2 => wpAny_execs_nil ⟨_, H1, I2, q1⟩) hf
end
end TT
namespace TT
open PySem PySem.Spec PyProof.Rows L2

/-! ### try .. except C -/
section
variable {X : Cx}
/-- the caught one, looked at: the class test and the suite -/
theorem look_and_land (O : Own X) {pins : List (Addr × Obj)} {σ : L2.St} {H : Value → Hp → Prop} {e : Value} {s : Shared} {E : Value → Shared → Prop} {hs : List ExceptHandler} {Q : Flow → Shared → Prop} (q : Caught X pins σ H e s)
    (go : ∀ (x : Addr) (cls : Value) (a0 : Value) (H' : Hp) (h' : Heap) (l : List Addr), e = .ref x → Inv X pins σ H' { s with heap := h' } → H' x = none → H cls H' → Heap.FlyingW (PySem.W.hideAll s.heap l) (X.env :: X.outer) x cls a0 h' →
      (∀ h2 t2, Heap.FlyingW (PySem.W.hideAll s.heap l) (X.env :: X.outer) x cls a0 h2 → h'.UpToSlots h2 → Inv X pins σ H' { s with heap := h2, toks := t2 }) →
      wpAny (model X.prog X.w) X.A (handleBy (.ref x) X.env hs) Q E { s with heap := h' }) :
    wpAny (model X.prog X.w) X.A (noteFrame e X.env) (fun _ s₂ => wpAny (model X.prog X.w) X.A (setFlight e none) (fun _ s₃ => wpAny (model X.prog X.w) X.A (handleBy e X.env hs) Q E s₃) E s₂) E s := by
  obtain ⟨x, cls, H1, H2, s0, rfl, I1, J, ⟨n0, nH, oe, vs, T, oT, ts, a0, nT0, nTH, hx, hc, hd, h1, hTx, hT, hdT, h3⟩, hq⟩ := q
  have ff : s.heap.FunFrames X.base (X.env :: X.outer) := O.st ▸ J.stack
  have hfr : X.A.frames = some (X.env :: X.outer) := O.st ▸ J.ok.frames
  refine wpAny_looks_onW (base := PySem.W.hideAll s.heap (x :: T :: frs (X.env :: X.outer))) (cls := cls) (a0 := a0) hfr O.fr
    ⟨fun b o e => PySem.W.of_hideAll _ e, PySem.W.hideAll_none _ List.mem_cons_self, PySem.W.funFrames_hide ff fun env he b hb => List.mem_cons_of_mem _ (List.mem_cons_of_mem _ (mem_frs env he b hb)),
      oe, vs, T, oT, ts, hx, hc, hd, h1, PySem.W.hideAll_none _ (List.mem_cons_of_mem _ List.mem_cons_self), hTx, hT, hdT, h3⟩ fun h1 held up1 => ?_
  refine wpAny_landsW held fun h2 fl2 up2 => ?_
  have beh : ∀ h' t', (PySem.W.hideAll s.heap (x :: T :: frs (X.env :: X.outer))).StaysIn h' → s.heap.UpToSlots h' → Inv X pins σ H2 { s with heap := h', toks := t' } := fun h' t' st up =>
    inv_behind I1 J n0 nT0 nH nTH (by rw [O.st]; exact st) up
  exact go x cls a0 H2 h2 _ rfl (beh h2 _ fl2.1 (up1.trans up2)) nH hq fl2 fun h3 t3 fl3 up3 => beh h3 t3 fl3.1 ((up1.trans up2).trans up3)

variable {body suite : List Stmt} {b₀ : Stmt} {c : Str} {np hpos pos : Pos} {C : Addr} {tb : TB}
/-- the caught class: C or one of its heirs -/
def tTry (K : PySem.W.Frag) (C : Addr) (tb : TB) (th : TS) : TS := fun D σ H => tb D (fun cls H' => PySem.W.exmOne K cls (.ref C) = some true ∧ th D σ H') σ H
theorem ps_try {th : TS} (O : Own X) (hb : PB X body tb) (hg : Gl X c) (hm : X.mg c = some (.ref C)) (hh : ∀ x oe, PSs (inH X x oe) (b₀ :: suite) th) (hdb : (c == ("__debug__" : Str)) = false := by decide) :
    PS X (.Try body [.ExceptHandler (some (.Name c np)) none (b₀ :: suite) hpos] [] [] pos) (tTry X.K C tb th) := by
  intro pins s σ H D I h
  refine wpAny_Try_except (wpAny_mono (hb pins s σ H D _ I h) (fun f s1 q => ?_) fun e s1 q => ?_)
  · cases f with
    | next => exact wpAny_execs_nil q
    | ret v => exact q
    | brk => exact q
    | cont => exact q
  · refine look_and_land O q fun x cls a0 H' h' l _ J nH ⟨hm1, hth⟩ fl beh => ?_
    obtain ⟨oe, ws, hoe, hoec, hoed, _⟩ := fl.first
    have JH : Inv (inH X x oe) pins σ H' { s1 with heap := h' } := inv_inH J hoe nH hoed
    have LT : PySem.W.Looks (model X.prog X.w) h' (typeOf (.ref x)) cls := hoec ▸ (PySem.W.Looks.ld hoe).andThen .now
    refine wpAny_handleBy_cons (codeAny_handlers_test (ld_glob (X := inH X x oe) JH hg hm ?_ hdb)) (by intro q; cases q)
    refine PySem.W.exm_one (h := h') J.kIn LT hm1 _ _ _ _ (fun _ _ e => e) ?_
    refine codeAny_handlers_suite (lands_againW fl fun h3 fl3 up3 => ?_)
    obtain ⟨oe3, ws3, hoe3, _, hoed3, _⟩ := fl3.first
    have J3 := inv_inH (x := x) (oe := oe3) (beh h3 s1.toks fl3 up3) hoe3 nH hoed3
    exact wpAny_mono (hh x oe3 pins _ σ H' D J3 hth) (fun f s2 q => sp_outH I.ok q) fun _ _ z => False.elim z
end

/-! ### try .. except C as e, the suite returns -/
section
variable {X : Cx} {pins : List (Addr × Obj)} {σ : L2.St} {H : Hp} {s : Shared}
theorem inv_goes (I : Inv X pins σ H s) {h' : Heap} {m' : Str → Option Value} {t' : Nat} (hn : h'.Ns X.env.locals m') (sb : Heap.SameBut X.env.locals s.heap h') : Inv X pins (σ.map fun _ => none) H { s with heap := h', toks := t' } := by
  have neL : ∀ b o, X.s₀.heap.get? b = some o → b ≠ X.env.locals := fun b o e => Nat.ne_of_lt (Nat.lt_of_lt_of_le (Heap.lt_size e) I.ok.above)
  refine ⟨I.ok, I.os, I.bare, ⟨fun b o e n hb hx => (sb.2 b (neL b o e)).trans (I.base.keep b o e n hb hx), fun b o e n hb hx => ?_, I.base.free, fun b o e hx => ?_, I.base.tups, I.base.frzs, I.base.tbls⟩, ⟨m', hn, fun i y v _ e2 _ => ?_⟩, fun y c e => ?_, I.free, I.freeC, fun p hp => ?_, fun b u e => ?_, by rw [List.length_map]; exact I.len⟩
  · obtain ⟨sl, e1⟩ := I.base.slot b o e n hb hx
    exact ⟨sl, (sb.2 b (neL b o e)).trans e1⟩
  · obtain ⟨o', e1⟩ := I.base.there b o e hx
    exact ⟨o', (sb.2 b (neL b o e)).trans e1⟩
  · rw [List.getElem?_map] at e2
    cases q : σ[i]? with
    | none => rw [q] at e2; cases e2
    | some z => rw [q] at e2; cases e2
  · obtain ⟨v, z⟩ := I.cell y c e
    exact ⟨v, z.sameBut sb (I.cne y c e)⟩
  · obtain ⟨e, n, ne, nf, d⟩ := I.pin p hp
    exact ⟨(sb.2 p.1 ne).trans e, n, ne, nf, d⟩
  · refine (I.hok b u e).stay (fun c v hc q => (sb.2 c ?_).trans q) (fun _ q => q) fun _ _ q => q
    rintro rfl
    rcases hc with z | z
    · rw [← z, I.free] at e; cases e
    · rw [I.free] at z; cases z
variable {body suite : List Stmt} {b₀ : Stmt} {c n : Str} {np hpos pos : Pos} {C : Addr} {tb : TB}
def tTryAs (K : PySem.W.Frag) (C : Addr) (i : Nat) (tb : TB) (th : Addr → Value → TS) : TS := fun D σ H => tb D (fun cls H' => PySem.W.exmOne K cls (.ref C) = some true ∧
  ∀ x, H' x = none → th x cls { nx := fun _ _ => False, rt := D.rt } (σ.set i (some (.ref x))) H') σ H
theorem ps_tryAs {i : Nat} {th : Addr → Value → TS} (O : Own X) (hN : X.N.Nodup) (hi : X.N[i]? = some n) (hl : X.env.kindOf n = some .local) (hb : PB X body tb) (hg : Gl X c) (hm : X.mg c = some (.ref C)) (hh : ∀ x oe cls, oe.cls = cls → PSs (inH X x oe) (b₀ :: suite) (th x cls)) (hdb : (c == ("__debug__" : Str)) = false := by decide) :
    PS X (.Try body [.ExceptHandler (some (.Name c np)) (some n) (b₀ :: suite) hpos] [] [] pos) (tTryAs X.K C i tb th) := by
  intro pins s σ H D I h
  refine wpAny_Try_except (wpAny_mono (hb pins s σ H D _ I h) (fun f s1 q => ?_) fun e s1 q => ?_)
  · cases f with
    | next => exact wpAny_execs_nil q
    | ret v => exact q
    | brk => exact q
    | cont => exact q
  · refine look_and_land O q fun x cls a0 H' h' l _ J nH ⟨hm1, hth⟩ fl beh => ?_
    obtain ⟨oe, ws, hoe, hoec, hoed, _⟩ := fl.first
    have JH : Inv (inH X x oe) pins σ H' { s1 with heap := h' } := inv_inH J hoe nH hoed
    have LT : PySem.W.Looks (model X.prog X.w) h' (typeOf (.ref x)) cls := hoec ▸ (PySem.W.Looks.ld hoe).andThen .now
    refine wpAny_handleBy_cons (codeAny_handlers_test (ld_glob (X := inH X x oe) JH hg hm ?_ hdb)) (by intro q; cases q)
    refine PySem.W.exm_one (h := h') J.kIn LT hm1 _ _ _ _ (fun _ _ e => e) ?_
    refine codeAny_handlers_suite_as (lands_againW fl fun h3 fl3 up3 => ?_)
    obtain ⟨oe3, ws3, hoe3, hoec3, hoed3, _⟩ := fl3.first
    have J3 := inv_inH (x := x) (oe := oe3) (beh h3 s1.toks fl3 up3) hoe3 nH hoed3
    refine store_ok (X := inH X x oe3) (i := i) (v := .ref x) J3 hN hi (.inl hl) rfl (fun s4 J4 => ?_) (.inr hl)
    refine wpAny_mono (hh x oe3 cls hoec3 pins s4 _ H' _ J4 (hth x nH)) (fun f s5 q => ?_) fun _ _ z => False.elim z
    have q := sp_outH I.ok q
    cases f with
    | ret v =>
      obtain ⟨v, σ', H5, I5, r5, q5⟩ := q
      obtain ⟨m5, hn5, _⟩ := id I5.loc
      refine wpAny_nameGoes hl hn5 (by rw [I.ok.kind]; rfl) fun h6 m6 hn6 sb6 => ?_
      exact ⟨v, _, H5, inv_goes I5 hn6 sb6, r5, q5⟩
    | next => obtain ⟨_, _, _, q⟩ := q; exact q.elim
    | brk => obtain ⟨_, _, _, q⟩ := q; exact q.elim
    | cont => obtain ⟨_, _, _, q⟩ := q; exact q.elim
end
end TT
namespace TT
open PySem PySem.Spec PySem.W PyProof.Rows Builtin Builtin.ObjectAttr Builtin.Getset_descriptor

/-! ### isinstance of an exception of ours -/
/-- what the text says of the class C of an exception -/
structure ExcK (K : PySem.W.Frag) (C : Addr) : Prop where
  ga : PySem.W.findIn K (.ref C) "__getattribute__" = some (some (.builtin "BaseException.__getattribute__"))
  gn : PySem.W.findIn K (.ref C) "__getattr__" = some none
  cl : PySem.W.findIn K (.ref C) "__class__" = some (some (.builtin "object.__class__"))
  m1 : PySem.W.mroIn K C (.type "object") = some true
  m2 : PySem.W.mroIn K C (.type "BaseException") = some true
  is : (PySem.W.clsIn K C).isSome = true
def ExcAt (x C : Addr) (h : Heap) : Prop := ∃ o, h.get? x = some o ∧ o.cls = .ref C
section
variable {prog : Program} {w : World} {A : Around} {E : Value → Shared → Prop} {K : PySem.W.Frag} {x C : Addr} {h : Heap} {g : Array GenState} {d : Drawn} {t : Nat} {os : OsState}
theorem ex_ty {M : Model} (p : ExcAt x C h) : PySem.W.Looks M h (typeOf (.ref x)) (.ref C) := by
  obtain ⟨o, h1, h2⟩ := p
  exact h2 ▸ (PySem.W.Looks.ld h1).andThen .now
theorem ex_get {R : Result → Shared → Prop} {tp : Value} (X : K.In h) (F : ExcK K C) (p : ExcAt x C h) (hq : R (.ok (.ret (.ref C))) ⟨h, g, d, t, os⟩) :
    codeAny (model prog w) A (.call (.builtin "getset_descriptor.__get__") ⟨[.builtin "object.__class__", .ref x, tp], []⟩) R ⟨h, g, d, t, os⟩ := by
  have J0 := ex_ty (M := model prog w) p
  have J1 := looks_mroIn (M := model prog w) X F.m1
  refine codeAny_call_builtin KF.slot_gs.plain KF.entry_gs (KF.slot_gs.check _ _ _ _ _ _ _ _ KF.type_class (KF.args_gs _ _ _) ?_)
  unfold Builtin.«getset_descriptor.__get__» descrGet
  rw [dga_obj]
  refine wpAny_bind (wpAny_pure ?_)
  unfold descrGetter descrCheckInstance descrNameAndClass isInstance
  simp only [KF.owner_class]
  repeat lk
  refine ⟨Code.quiet_builtin _ (by decide +kernel), codeAny_builtin KF.entry_class ?_⟩
  unfold Builtin.«object.__class__» shownTypeOf
  repeat lk
  exact hq
theorem ex_check {M : Model} {nameV : Value} {Q : Unit → Shared → Prop} (X : K.In h) (F : ExcK K C) (p : ExcAt x C h) (hq : Q () ⟨h, g, d, t, os⟩) :
    wpAny M A (checkBuiltinCall "BaseException.__getattribute__" ⟨[.ref x, nameV], []⟩) Q E ⟨h, g, d, t, os⟩ := by
  have hk : builtinKind "BaseException.__getattribute__" = some .slot := by decide +kernel
  have hsplit : splitId "BaseException.__getattribute__" = some ("BaseException", "__getattribute__") := by decide +kernel
  have J0 := ex_ty (M := M) p
  have J1 := looks_mroIn (M := M) X F.m2
  have ha := PySem.F.args_bexc_ga (.ref x) nameV
  simp only [checkBuiltinCall, hk, hsplit]
  refine wpAny_bind ?_
  unfold isInstance
  repeat (first | lk | wp_step)
  exact hq
theorem ex_entry {tk : Tok} {Q : Fin → Shared → Prop} (X : K.In h) (F : ExcK K C) (p : ExcAt x C h) (hq : Q (.done (.ret (.ref C))) ⟨h, g, d, t, os⟩) :
    wpAny (model prog w) A (Builtin.«object.__getattribute__» ⟨[.ref x, .str "__class__" tk], []⟩) Q E ⟨h, g, d, t, os⟩ := by
  have J0 := ex_ty (M := model prog w) p
  have J1 := looks_findIn (M := model prog w) X F.cl
  have hT5 : (⟨h, g, d, t, os⟩ : Shared).TypeIs (.builtin "object.__class__") "getset_descriptor" := PySem.F.typeOf_object_class
  have f5 := PySem.F.typeOf_object_class
  have f6 := PySem.F.slot_gs_get.lookup
  have f7 := PySem.F.slot_gs_set.lookup
  obtain ⟨o, hx, hc⟩ := id p
  repeat (any_goals (first | assumption | (with_reducible refine wpAny_loadPart_at hx ?_; rw [hc]) | with_reducible refine PySem.W.Looks.at J1 ?_ | wp_step))
  refine ex_get X F p ?_
  repeat (any_goals (first | assumption | wp_step))
theorem ex_call {tk : Tok} {R : Result → Shared → Prop} (X : K.In h) (F : ExcK K C) (p : ExcAt x C h) (hq : R (.ok (.ret (.ref C))) ⟨h, g, d, t, os⟩) :
    codeAny (model prog w) A (.call (.builtin "BaseException.__getattribute__") ⟨[.ref x, .str "__class__" tk], []⟩) R ⟨h, g, d, t, os⟩ :=
  codeAny_call_builtin PySem.F.attr_ValueError.ga.plain PySem.F.entry_bexc_ga (ex_check X F p (ex_entry X F p hq))
theorem ex_by {tk : Tok} {Q : Value → Shared → Prop} (X : K.In h) (F : ExcK K C) (p : ExcAt x C h) (hq : Q (.ref C) ⟨h, g, d, t, os⟩) : wpAny (model prog w) A (getAttrBy (.ref x) (.str "__class__" tk) false) Q E ⟨h, g, d, t, os⟩ := by
  have f3 := PySem.F.attr_ValueError.ga.bind (.ref x)
  have J1 := looks_findIn (M := model prog w) X F.ga
  have J2 := looks_findIn (M := model prog w) X F.gn
  have hx2 : (Value.builtin "BaseException.__getattribute__" == Value.builtin "object.__getattribute__") = false := by decide +kernel
  have hx1 : (onTheHeap (Value.ref C) && Value.builtin "BaseException.__getattribute__" == Value.builtin "object.__getattribute__") = false := by rw [hx2]; rfl
  obtain ⟨o, hx, hc⟩ := id p
  repeat (any_goals (first | assumption | (with_reducible refine wpAny_loadPart_at hx ?_; rw [hc]) | with_reducible refine PySem.W.Looks.at J1 ?_ | with_reducible refine PySem.W.Looks.at J2 ?_ | wp_step))
  refine ex_call X F p ?_
  repeat (any_goals (first | assumption | wp_step))
theorem ex_attr {Q : Option Value → Shared → Prop} (X : K.In h) (F : ExcK K C) (p : ExcAt x C h) (hq : Q (some (.ref C)) ⟨h, g, d, t + 1, os⟩) : wpAny (model prog w) A (getAttr? (.ref x) "__class__") Q E ⟨h, g, d, t, os⟩ := by
  unfold getAttr? getAttrBy?
  repeat (any_goals (first | assumption | with_reducible apply ex_by X F p | wp_step))
theorem kitx_exc (F : ExcK K C) : PySem.W.KitX K (.ref x) (.ref C) (ExcAt x C) where
  ty := fun _ _ _ p => ex_ty p
  it := fun M h X _ => by
    obtain ⟨cd, hc⟩ := Option.isSome_iff_exists.mp F.is
    unfold PySem.W.clsIn at hc
    split at hc
    · rename_i ho
      intro A' Q' E' s' k q
      unfold isType loadHead
      exact wpAny_bind (wpAny_loadPart (k _ _ (X _ _ ho)) (wpAny_pure q))
    · cases hc
  ne := fun h tp dd its n sl X htp => by
    obtain ⟨cd, hc⟩ := Option.isSome_iff_exists.mp F.is
    refine Bool.eq_false_iff.mpr fun q => ?_
    obtain rfl : C = tp := Value.ref.inj (beq_iff_eq.mp q)
    unfold PySem.W.clsIn at hc
    split at hc
    · rename_i ho
      have z := (X _ _ ho).symm.trans htp
      cases z
    · cases hc
  ca := fun {_ _ _ _ _ s} X p k => by obtain ⟨h, g, d, t, os⟩ := s; exact ex_attr X F p k
end
end TT
namespace TT
open PySem PySem.Spec PyProof.Rows L2

/-! ### range(a, b, -1) -/
/-- hi, hi - 1, .. (n of them) -/
def Itd (hi : Int) (n : Nat) : It := ⟨fun i _ => i < n, fun i H x H' => H' = H ∧ x = .int (hi - i), fun i _ => n ≤ i⟩
theorem turn_down {P : Program} {w : World} {K : PySem.W.Frag} {tg : Expr} (it : Addr) (hi : Int) (n : Nat) : Turn P w K tg (Itd hi n) [it] it (fun i h => IsRangeIter h it (hi + (i : Nat) * (-1)) ((n : Int) - (i : Nat)) (-1)) where
  mem := by simp
  obj := fun i h st b hb => by
    have e : b = it := by simpa using hb
    subst e
    exact ⟨_, st, fun v z => (nomatch (show Data.fields _ = Data.cell v from z))⟩
  keep := fun i h h' st k => k it (by simp) _ st
  item := by
    intro X hP hw hK hc i pins s σ H E I hf st hg
    subst hP hw hK
    obtain ⟨f0, f1, f2, f3, f4, f5⟩ := hf it (by simp)
    refine (Walks.range (prog := X.prog) (w := X.w) (I.ok.hd hc) it hi (-1) n).item i s _ _ hg st fun v h' tk hv st' kk => ?_
    obtain ⟨t, rfl⟩ := hv
    have I1 : Inv X pins σ H { s with heap := h', toks := tk } := I.turned (fun b o hb e => kk b o (by simpa using hb) e) f0 f1 f3 f4 f5
    refine ⟨_, rfl, go_of (s := { s with heap := h', toks := tk }) (n := "range_iterator") st' rfl rfl (by decide) ⟨.int (hi - i), H, I1, ⟨t, ?_⟩, ⟨rfl, rfl⟩, st', fun b hb => (hf b hb).1⟩⟩
    have e : hi + (i : Nat) * (-1 : Int) = hi - i := by omega
    rw [e]
  done := by
    intro X hP hw hK hc i pins s σ H E I hf st hg
    subst hP hw hK
    obtain ⟨f0, f1, f2, f3, f4, f5⟩ := hf it (by simp)
    exact wpAny_pyNext_range_end (I.ok.hd hc) st (by have : n ≤ i := hg; omega) fun h' eb => ⟨rfl, I.turned (t' := s.toks) (fun b o hb e => eb b o hb e) f0 f1 f3 f4 f5⟩
  self := fun _ _ _ _ _ st h => wpAny_pyIter_rangeiter st h
section
variable {X : Cx} {tg : Expr}
def iRngD (ta : TA) : TI := fun σ H R => ta σ H fun vs H1 => ∃ i j : Int, vs = [.int i, .int j, .int (-1)] ∧ (-(2 ^ 62) ≤ i ∧ i < 2 ^ 62 ∧ -(2 ^ 62) ≤ j ∧ j < 2 ^ 62) ∧ R (Itd i (i - j).toNat) H1
theorem pi_rangeD {a b c : Expr} {ta : TA} {p pos : Pos} (hg : Gl X "range") (hm : X.mg "range" = none) (ha : PA X [a, b, c] ta) (hs : starEach [a, b, c] X.env = (false, eval a X.env) :: starEach [b, c] X.env := by rfl) (hs2 : (backTo pos (starEach [b, c] X.env)).any (·.1) = false := by rfl) :
    PI X tg (.Call (.Name "range" p) [a, b, c] [] pos) (iRngD ta) := by
  intro pins s σ H R I h
  refine Call_ (ld_blt I hg hm boot_range (PyProof.Rows.callWith_type1 (thn (ha pos pins s σ H _ I h) fun us s1 ⟨vs, H1, I1, r1, q1⟩ => ?_) hs hs2))
  obtain ⟨i, j, e, ⟨q1, q2, q3, q4⟩, q⟩ := q1
  subst e
  cases r1 with
  | cons r rr => cases rr with
    | cons r' rr => cases rr with
      | cons r'' rr =>
        cases rr
        obtain ⟨t, rfl⟩ := r
        obtain ⟨t', rfl⟩ := r'
        obtain ⟨t'', rfl⟩ := r''
        refine call_range_3 (by decide) ?_ (.inl (PyProof.noPylong_small (by decide)))
        refine wpAny_pyIter_range (IsRange.new ..) (PySem.W.small_down q1 q2 q3 q4) ?_
        generalize hob : ({ cls := .type "range", data := .fields #[.int i t, .int j t', .int (-1) t''] } : Obj) = ob
        have J1 : Inv X pins σ H1 { s1 with heap := s1.heap.push ob, toks := s1.toks } := I1.kept fun b o e => Heap.get?_push_of_some _ e
        refine ⟨(s1.heap.push ob).objs.size, [(s1.heap.push ob).objs.size], _, _, H1, rfl, J1.kept (t' := s1.toks) fun b o e => Heap.get?_push_of_some _ e, turn_down _ i (i - j).toNat, ?_, fun b hb => ?_, q⟩
        · have e1 : i + ((0 : Nat) : Int) * (-1) = i := by simp
          have e2 : (((i - j).toNat : Nat) : Int) - ((0 : Nat) : Int) = Builtin.Range.rangeSize i j (-1) := by rw [PySem.W.rangeSize_downNat]; omega
          show IsRangeIter _ _ (i + ((0 : Nat) : Int) * (-1)) ((((i - j).toNat : Nat) : Int) - ((0 : Nat) : Int)) (-1)
          rw [e1, e2]
          exact Heap.get?_push_size _ rfl
        · have e : b = (s1.heap.push ob).objs.size := by simpa using hb
          subst e
          exact J1.fpOk (Nat.le_refl _) (J1.hok.fresh (Nat.le_refl _))
end
/-- the loop over it -/
theorem for_down {hi : Int} {n : Nat} {g : TG} {tb : TS} {De : Ends} {σ : L2.St} {H : Hp} (Pv : Nat → L2.St → Hp → Prop) (h0 : Pv 0 σ H)
    (step : ∀ i σ H, i < n → Pv i σ H → g (.int (hi - i)) σ H fun σ2 H2 => tb { De with nx := Pv (i + 1), ct := Pv (i + 1), bk := De.nx } σ2 H2) (last : ∀ σ H, Pv n σ H → De.nx σ H) :
    ∃ W : Nat → Nat → L2.St → Hp → Prop, (∃ m, W 0 m σ H) ∧ ∀ i m σ H, W i m σ H →
      ((Itd hi n).stop i H ∧ De.nx σ H) ∨ ((Itd hi n).go i H ∧ ∃ N : L2.St → Hp → Prop, (∀ σ' H', N σ' H' → ∃ m', m' < m ∧ W (i + 1) m' σ' H') ∧ ∀ x H', (Itd hi n).yld i H x H' → g x σ H' fun σ2 H2 => tb { De with nx := N, ct := N, bk := De.nx } σ2 H2) := by
  refine ⟨fun i m σ H => m = n - i ∧ i ≤ n ∧ Pv i σ H, ⟨n, by simp, Nat.zero_le _, h0⟩, ?_⟩
  rintro i m σ H ⟨rfl, hle, pv⟩
  by_cases hlt : i < n
  · refine .inr ⟨hlt, Pv (i + 1), fun σ' H' p' => ⟨n - (i + 1), by omega, rfl, hlt, p'⟩, ?_⟩
    rintro x H' ⟨rfl, rfl⟩
    exact step i σ _ hlt pv
  · obtain rfl : i = n := by omega
    exact .inl ⟨Nat.le_refl _, last σ H pv⟩

/-! ### reversed(list) -/
def Itv (K : PySem.W.Frag) (a : Addr) (n : Nat) : It :=
  ⟨fun i H => i < n ∧ ∃ xs x, SqL K H a xs ∧ xs.length = n ∧ xs[n - 1 - i]? = some x, fun i H x H' => H' = H ∧ ∀ xs, SqL K H a xs → xs.length = n → xs[n - 1 - i]? = some x, fun i H => n = i⟩
theorem turn_rev {P : Program} {w : World} {K : PySem.W.Frag} {tg : Expr} (a it : Addr) (n : Nat) : Turn P w K tg (Itv K a n) [it] it (fun i h => i ≤ n ∧ h.IsRevIter it a ((n : Int) - 1 - (i : Nat))) where
  mem := by simp
  obj := fun i h st b hb => by
    have e : b = it := by simpa using hb
    subst e
    obtain ⟨_, o, e, c, d⟩ := st
    exact ⟨o, e, fun v z => by rw [d] at z; cases z⟩
  keep := fun i h h' st k => by
    obtain ⟨hi, o, e, c, d⟩ := st
    exact ⟨hi, o, k it (by simp) o e, c, d⟩
  item := by
    intro X hP hw hK hc i pins s σ H E I hf st hg
    subst hP hw hK
    obtain ⟨hin, xs, x, hq, hl, hx⟩ := hg
    obtain ⟨its, rv, p, hz⟩ := I.list hq
    obtain ⟨u, hu, ru⟩ := rv.get hx
    obtain ⟨f0, f1, f2, f3, f4, f5⟩ := hf it (by simp)
    obtain ⟨_, st⟩ := st
    have e1 : (n : Int) - 1 - (i : Nat) = ((n - 1 - i : Nat) : Int) := by omega
    rw [e1] at st
    refine wpAny_pyNext_rev_item st p.isList (x := u) (by simpa using hu) fun h' st' sb => ?_
    have I1 : Inv X pins σ H { s with heap := h' } := I.turned (t' := s.toks) (fun b o hb e => (sb.2 b hb).trans e) f0 f1 f3 f4 f5
    have e2 : ((n - 1 - i : Nat) : Int) - 1 = (n : Int) - 1 - ((i + 1 : Nat) : Int) := by omega
    rw [e2] at st'
    obtain ⟨o, e, c, d⟩ := id st'
    exact ⟨u, rfl, go_of (s := { s with heap := h' }) e c d (by decide) ⟨x, H, I1, ru, ⟨rfl, fun ys hy hyl => by rw [I.list_inj hy hq]; exact hx⟩, ⟨hin, st'⟩, fun b hb => (hf b hb).1⟩⟩
  done := by
    intro X hP hw hK hc i pins s σ H E I hf st hg
    subst hP hw hK
    obtain ⟨f0, f1, f2, f3, f4, f5⟩ := hf it (by simp)
    obtain ⟨_, st⟩ := st
    obtain rfl : n = i := hg
    have e1 : (n : Int) - 1 - (n : Nat) = -1 := by omega
    rw [e1] at st
    exact wpAny_pyNext_rev_end (I.ok.hd hc) st fun h' eb => ⟨rfl, I.turned (t' := s.toks) (fun b o hb e => eb b o hb e) f0 f1 f3 f4 f5⟩
  self := fun _ _ _ _ _ st h => wpAny_pyIter_revIter st.2 h
end TT
namespace TT
open PySem PySem.Spec PyProof.Rows L2
section
variable {X : Cx} {tg : Expr}
theorem bt_reversed : bootBuiltins "reversed" = some (.type "reversed") := by decide +kernel
def iRev (K : PySem.W.Frag) (ta : TA) : TI := fun σ H R => ta σ H fun vs H1 => ∃ a xs, vs = [.ref a] ∧ SqL K H1 a xs ∧ R (Itv K a xs.length) H1
theorem pi_rev {e : Expr} {ta : TA} {p pos : Pos} (hg : Gl X "reversed") (hm : X.mg "reversed" = none) (ha : PA X [e] ta) (hs : starEach [e] X.env = [(false, eval e X.env)] := by rfl) : PI X tg (.Call (.Name "reversed" p) [e] [] pos) (iRev X.K ta) := by
  intro pins s σ H R I h
  refine Call_ (ld_blt I hg hm bt_reversed (PyProof.Rows.callWith_type1 (thn (ha pos pins s σ H _ I h) fun us s1 ⟨vs, H1, I1, r1, q1⟩ => ?_) hs rfl))
  obtain ⟨a, xs, e, hq, q⟩ := q1
  subst e
  cases r1 with
  | cons r rr =>
    cases rr
    cases r
    obtain ⟨its, rv, pl, hz⟩ := I1.list hq
    refine call_reversed_list pl.isList ?_
    have hl := rv.length
    have J : Inv X pins σ H1 { s1 with heap := s1.heap.push (revObj a ((its.toArray.size : Int) - 1)) } := I1.kept (t' := s1.toks) fun b o e => Heap.get?_push_of_some _ e
    have hit : (s1.heap.push (revObj a ((its.toArray.size : Int) - 1))).IsRevIter s1.heap.objs.size a ((xs.length : Int) - 1 - ((0 : Nat) : Int)) := ⟨_, Heap.get?_push_size _ rfl, rfl, by
      have e : (its.toArray.size : Int) - 1 = (xs.length : Int) - 1 - ((0 : Nat) : Int) := by simp only [List.size_toArray]; omega
      rw [e]
      rfl⟩
    refine wpAny_pyIter_revIter hit ?_
    refine ⟨s1.heap.objs.size, [s1.heap.objs.size], _, _, H1, rfl, J, turn_rev a _ xs.length, ⟨Nat.zero_le _, hit⟩, fun b hb => ?_, q⟩
    have e : b = s1.heap.objs.size := by simpa using hb
    subst e
    exact I1.fpOk (Nat.le_refl _) (I1.hok.fresh (Nat.le_refl _))
end
/-- the loop over it; the list stays -/
theorem for_rev {K : PySem.W.Frag} {a : Addr} {xs : List V} {g : TG} {tb : TS} {De : Ends} {σ : L2.St} {H : Hp} (Pv : Nat → L2.St → Hp → Prop) (h0 : Pv 0 σ H) (stays : ∀ i σ H, i ≤ xs.length → Pv i σ H → SqL K H a xs)
    (step : ∀ i x σ H, xs[xs.length - 1 - i]? = some x → i < xs.length → Pv i σ H → g x σ H fun σ2 H2 => tb { De with nx := Pv (i + 1), ct := Pv (i + 1), bk := De.nx } σ2 H2) (last : ∀ σ H, Pv xs.length σ H → De.nx σ H) :
    ∃ W : Nat → Nat → L2.St → Hp → Prop, (∃ m, W 0 m σ H) ∧ ∀ i m σ H, W i m σ H →
      ((Itv K a xs.length).stop i H ∧ De.nx σ H) ∨ ((Itv K a xs.length).go i H ∧ ∃ N : L2.St → Hp → Prop, (∀ σ' H', N σ' H' → ∃ m', m' < m ∧ W (i + 1) m' σ' H') ∧ ∀ x H', (Itv K a xs.length).yld i H x H' → g x σ H' fun σ2 H2 => tb { De with nx := N, ct := N, bk := De.nx } σ2 H2) := by
  refine ⟨fun i m σ H => m = xs.length - i ∧ i ≤ xs.length ∧ Pv i σ H, ⟨xs.length, by simp, Nat.zero_le _, h0⟩, ?_⟩
  rintro i m σ H ⟨rfl, hle, pv⟩
  have hq := stays i σ H hle pv
  by_cases hlt : i < xs.length
  · have hx : xs[xs.length - 1 - i]? = some (xs[xs.length - 1 - i]'(by omega)) := List.getElem?_eq_getElem (by omega)
    refine .inr ⟨⟨hlt, xs, _, hq, rfl, hx⟩, Pv (i + 1), fun σ' H' p' => ⟨xs.length - (i + 1), by omega, rfl, hlt, p'⟩, ?_⟩
    rintro x H' ⟨rfl, hxx⟩
    exact step i x σ _ (hxx xs hq rfl) hlt pv
  · obtain rfl : i = xs.length := by omega
    exact .inl ⟨rfl, last σ H pv⟩
end TT
namespace TT
open PySem PySem.Spec PyProof.Rows L2

/-! ### texts put together: only that one comes, no longer than n -/
def Small (a : Int) : Prop := a.natAbs < 10 ^ 100
theorem small_log {a : Int} (h : Small a) : a.natAbs.log2 < 1920 := by
  by_cases h0 : a.natAbs = 0
  · rw [h0]; decide
  · exact (Nat.log2_lt h0).mpr (Nat.lt_trans h (by decide +kernel))
theorem small_text {a : Int} (h : Small a) : (Str.ofString (toString a)).length ≤ 101 := by
  have e := int_text_length_le10 (k := 100) (by decide) h
  rw [PySem.ofString_length]
  exact e
theorem text_le (ts : List Str) : (listText ts).length ≤ 2 + piled ts := by
  cases ts with
  | nil => decide
  | cons t r =>
    have h := textFrom_length_pos r 1 (("[" : Str) ++ (if (0 : Nat) > 0 then ", " else "" : String) ++ t) Nat.one_pos
    have e : ((("[" : Str) ++ (if (0 : Nat) > 0 then ", " else "" : String) ++ t)).length = 1 + t.length := by rw [strLen_append, strLen_append]; rfl
    show (textFrom 1 (("[" : Str) ++ (if (0 : Nat) > 0 then ", " else "" : String) ++ t) r ++ "]").length ≤ _
    rw [strLen_append, h, e, piled_cons]
    show _ + 1 ≤ _
    omega
def PF (X : Cx) (e : Expr) (c : L2.St → Hp → Prop) (n : Nat) : Prop :=
  ∀ (pins : List (Addr × Obj)) (s : Shared) (σ : L2.St) (H : Hp), Inv X pins σ H s → c σ H → wpAny (model X.prog X.w) X.A (eval e X.env) (fun u s' => ∃ y t, u = .str y t ∧ y.length ≤ n ∧ Inv X pins σ H s') X.xe s
def PFs (X : Cx) (es : List Expr) (c : L2.St → Hp → Prop) (n : Nat) : Prop :=
  ∀ (out : Str) (pins : List (Addr × Obj)) (s : Shared) (σ : L2.St) (H : Hp), Inv X pins σ H s → c σ H → out.length + n ≤ sizeLine → wpAny (model X.prog X.w) X.A (joinParts out (evalEach es X.env)) (fun u s' => ∃ y t, u = .str y t ∧ Inv X pins σ H s') X.xe s
section
variable {X : Cx}
theorem pf_text {x : Str} {j : Nat} {pos : Pos} {n : Nat} (h : x.length ≤ n) : PF X (.Constant (.str x) j pos) (fun _ _ => True) n := fun _ _ _ _ I _ => Calls.Constant_str ⟨x, _, rfl, h, I.tok _⟩
theorem pf_int {i : Nat} {x : Str} {p pos : Pos} (hv : PE X (.Name x p) (tVar i)) : PF X (.FormattedValue (.Name x p) (-1) none pos) (fun σ _ => ∃ a, σ[i]? = some (some (.int a)) ∧ Small a) 101 := by
  intro pins s σ H I ⟨a, hi, ha⟩
  refine FormattedValue_plain (thn (hv pins s σ H (fun v H' => v = .int a ∧ H' = H) I ⟨_, hi, rfl, rfl⟩) fun u s1 ⟨v, H1, I1, r1, e1, e2⟩ => ?_)
  subst e1 e2
  obtain ⟨t, rfl⟩ := (show ∃ t, u = Value.int a t from r1)
  exact formatField_int_small (small_log ha) ⟨_, _, rfl, small_text ha, I1.tok _⟩
theorem reads_ints {h : Heap} : ∀ {us : List Value} {ns : List Int}, Vals (ns.map V.int) us → ReadsAll h us (ns.map PyData.int) []
  | _, [], .nil => .nil
  | _, n :: ns, .cons r t => by
    obtain ⟨k, rfl⟩ := r
    exact .cons (as := []) (bs := []) (.int n k) (reads_ints t)
theorem shown_ints : ∀ {ns : List Int}, (∀ a ∈ ns, Small a) → piled (PyData.shownAll (ns.map PyData.int)) ≤ 103 * ns.length
  | [], _ => Nat.zero_le _
  | a :: ns, h => by
    have h1 := small_text (h a List.mem_cons_self)
    have h2 := shown_ints fun b hb => h b (List.mem_cons_of_mem _ hb)
    rw [List.map_cons, PyData.shownAll, piled_cons, List.length_cons]
    simp only [PyData.shown]
    show (Str.ofString (toString a)).length + 2 + _ ≤ _
    omega
theorem ok_ints : ∀ {ns : List Int}, (∀ a ∈ ns, Small a) → PyData.showableAll (ns.map PyData.int) = true
  | [], _ => by simp [PyData.showableAll]
  | a :: ns, h => by
    rw [List.map_cons, PyData.showableAll, PyData.showable, ok_ints fun b hb => h b (List.mem_cons_of_mem _ hb), decide_eq_true (small_log (h a List.mem_cons_self))]
    rfl
theorem no_dict_ints : ∀ {ns : List Int}, PyData.hasDictAll (ns.map PyData.int) = false
  | [] => by simp [PyData.hasDictAll]
  | a :: ns => by simp [PyData.hasDictAll, PyData.hasDict, no_dict_ints]
theorem depth_ints : ∀ {ns : List Int}, PyData.depthAll (ns.map PyData.int) ≤ 1
  | [] => by simp [PyData.depthAll]
  | a :: ns => by
    have := depth_ints (ns := ns)
    simp only [List.map_cons, PyData.depthAll, PyData.depth]
    omega
theorem pf_list {k i : Nat} {x : Str} {p pos : Pos} (hr : Room k X.A) (hv : PE X (.Name x p) (tVar i)) : PF X (.FormattedValue (.Name x p) (-1) none pos) (fun σ H => ∃ (a : Addr) (ns : List Int), σ[i]? = some (some (.ref a)) ∧ SqL X.K H a (ns.map V.int) ∧ ns.length ≤ 1000 ∧ ∀ b ∈ ns, Small b) 200000 := by
  intro pins s σ H I ⟨a, ns, hi, ha, hl, hs⟩
  refine FormattedValue_plain (thn (hv pins s σ H (fun v H' => v = .ref a ∧ H' = H) I ⟨_, hi, rfl, rfl⟩) fun u s1 ⟨v, H1, I1, r1, e1, e2⟩ => ?_)
  subst e1 e2
  cases (show u = Value.ref a from r1)
  obtain ⟨its, rv, pl, hz⟩ := I1.list ha
  obtain ⟨o, ho, hc, n, hd⟩ := pl.isList
  have hlen : (PyData.shown (.list (ns.map PyData.int))).length ≤ 200000 := by
    simp only [PyData.shown]
    have h1 := text_le (PyData.shownAll (ns.map PyData.int))
    have h2 := shown_ints hs
    omega
  have R : Reads s1.heap (.ref a) (.list (ns.map PyData.int)) [a] := .list ho hc hd (by simpa using reads_ints rv)
  refine formatField_of_reads R (by rw [PyData.showable]; exact ok_ints hs) (PyData.noDict_hsm (by rw [PyData.hasDict]; exact no_dict_ints)) hr.gu ?_ (fun _ _ e => e) (fun h' t tk kk => ⟨_, t, rfl, hlen, I1.kept kk⟩) (Nat.le_trans hlen (by decide))
  have h1 := depth_ints (ns := ns)
  have h2 := hr.un
  rw [PyData.depth]
  omega
theorem pfs_nil : PFs X [] (fun _ _ => True) 0 := fun out _ _ _ _ I _ h => joinParts_nil ⟨out, _, rfl, I.tok _⟩ (by omega)
theorem pfs_cons {e : Expr} {es : List Expr} {c d : L2.St → Hp → Prop} {n m : Nat} (h1 : PF X e c n) (h2 : PFs X es d m) (he : evalEach (e :: es) X.env = eval e X.env :: evalEach es X.env := by rfl) : PFs X (e :: es) (fun σ H => c σ H ∧ d σ H) (n + m) := by
  intro out pins s σ H I ⟨hc, hd⟩ hl
  rw [he]
  refine joinParts_cons (thn (h1 pins s σ H I hc) fun u s1 ⟨y, t, e, hy, I1⟩ => ?_)
  subst e
  have z : (out ++ y).length = out.length + y.length := strLen_append ..
  exact ⟨by omega, h2 _ pins s1 σ H I1 hd (by omega)⟩
def tText (c : L2.St → Hp → Prop) : TE := fun σ H Q => c σ H ∧ ∀ y, Q (.str y) H
theorem pe_fstr {e₁ e₂ : Expr} {es : List Expr} {c : L2.St → Hp → Prop} {n : Nat} {pos : Pos} (h : PFs X (e₁ :: e₂ :: es) c n) (hn : n ≤ sizeLine) : PE X (.JoinedStr (e₁ :: e₂ :: es) pos) (tText c) := by
  intro pins s σ H Q I ⟨hc, q⟩
  refine JoinedStr_many (thn (h Str.empty pins s σ H I hc (by show 0 + n ≤ sizeLine; omega)) fun u s1 ⟨y, t, e, I1⟩ => ?_)
  subst e
  exact ⟨.str y, H, I1, ⟨t, rfl⟩, q y⟩
end
end TT
namespace TT
open PySem PySem.Spec PyProof.Rows L2

/-! ### one value bears one datum -/
mutual
theorem Rep.one {G : Hp} : ∀ {v : V} {d e : D}, Rep G v d → Rep G v e → d = e
  | _, _, _, .int _, k => by cases k; rfl
  | _, _, _, .str _, k => by cases k; rfl
  | _, _, _, .bl _, k => by cases k; rfl
  | _, _, _, .non, k => by cases k; rfl
  | _, _, _, .lst h r, k => by
    cases k with
    | lst h' r' =>
      rw [h] at h'
      cases h'
      rw [Reps.one r r']
    | tup h' r' =>
      rw [h] at h'
      cases h'
  | _, _, _, .tup h r, k => by
    cases k with
    | lst h' r' =>
      rw [h] at h'
      cases h'
    | tup h' r' =>
      rw [h] at h'
      cases h'
      rw [Reps.one r r']
theorem Reps.one {G : Hp} : ∀ {vs : List V} {ds es : List D}, Reps G vs ds → Reps G vs es → ds = es
  | _, _, _, .nil, k => by cases k; rfl
  | _, _, _, .cons r t, k => by
    cases k with
    | cons r' t' => rw [Rep.one r r', Reps.one t t']
end
mutual
theorem Tr.d_one : ∀ {t u : Tr}, t.d = u.d → t = u
  | .node m ks, .node m' ks', h => by
    rw [Tr.d, Tr.d] at h
    injection h with h
    injection h with h1 h2
    injection h1 with h1
    rw [h1, dOf_one h2]
theorem dOf_one : ∀ {ts us : List Tr}, dOf ts = dOf us → ts = us
  | [], [], _ => rfl
  | [], u :: us, h => by rw [dOf, dOf] at h; cases h
  | t :: ts, [], h => by rw [dOf, dOf] at h; cases h
  | t :: ts, u :: us, h => by
    rw [dOf, dOf] at h
    injection h with h1 h2
    rw [Tr.d_one h1, dOf_one h2]
end
theorem rowD_one {ts us : List Tr} (h : rowD ts = rowD us) : ts = us := by
  unfold rowD at h
  injection h with h
  rw [← dOf_map, ← dOf_map] at h
  exact dOf_one h

/-! ### == of trees and of rows -/
theorem all_iff {n : Nat} {e : Nat → Bool} : (List.range n).all e = true ↔ ∀ j, j < n → e j = true := by
  rw [List.all_eq_true]
  exact ⟨fun h j hj => h j (List.mem_range.mpr hj), fun h j hj => h j (List.mem_range.mp hj)⟩
theorem lists_same {α : Type} {a b : List α} (hl : a.length = b.length) (h : ∀ j, j < a.length → a[j]? = b[j]?) : a = b := by
  apply List.ext_getElem? 
  intro j
  by_cases hj : j < a.length
  · exact h j hj
  · rw [List.getElem?_eq_none (by omega), List.getElem?_eq_none (by omega)]
section
variable {P : Program} {w : World} {G H : Hp} {s : Shared}
/-- how items are compared one by one -/
theorem items_eq {A : Around} {vs ws : List V} {ds es : List D} {xs ys : List Value} (hr : Reps G vs ds) (hq : Reps G ws es) (rv : Vals vs xs) (rw' : Vals ws ys)
    (one : ∀ (j : Nat) (v w : V) (d e : D) (x y : Value), ds[j]? = some d → es[j]? = some e → Rep G v d → Rep G w e → RelV v x → RelV w y → ∃ b, SeqAt.EqAt A s x y b ∧ (b = true ↔ d = e)) :
    ∃ f : Nat → Bool, (∀ j (h1 : j < xs.toArray.size) (h2 : j < ys.toArray.size), SeqAt.EqAt A s xs.toArray[j] ys.toArray[j] (f j)) ∧ ∀ j, j < ds.length → j < es.length → (f j = true ↔ ds[j]? = es[j]?) := by
  have l1 := hr.length
  have l2 := hq.length
  have l3 := rv.length
  have l4 := rw'.length
  have H0 : ∀ j : Nat, ∃ b : Bool, (∀ (h1 : j < xs.toArray.size) (h2 : j < ys.toArray.size), SeqAt.EqAt A s xs.toArray[j] ys.toArray[j] b) ∧ (j < ds.length → j < es.length → (b = true ↔ ds[j]? = es[j]?)) := by
    intro j
    by_cases h1 : j < ds.length
    · by_cases h2 : j < es.length
      · obtain ⟨v, hv, rd⟩ := hr.get (List.getElem?_eq_getElem h1)
        obtain ⟨w, hw, re⟩ := hq.get (List.getElem?_eq_getElem h2)
        obtain ⟨x, hx, rx⟩ := rv.get hv
        obtain ⟨y, hy, ry⟩ := rw'.get hw
        obtain ⟨b, hb, hi⟩ := one j v w _ _ x y (List.getElem?_eq_getElem h1) (List.getElem?_eq_getElem h2) rd re rx ry
        refine ⟨b, fun h3 h4 => ?_, fun _ _ => ?_⟩
        · have e1 : xs.toArray[j] = x := by
            have := List.getElem?_eq_some_iff.mp hx
            obtain ⟨_, e⟩ := this
            simpa using e
          have e2 : ys.toArray[j] = y := by
            obtain ⟨_, e⟩ := List.getElem?_eq_some_iff.mp hy
            simpa using e
          rw [e1, e2]
          exact hb
        · rw [hi, List.getElem?_eq_getElem h1, List.getElem?_eq_getElem h2]
          exact ⟨fun z => by rw [z], fun z => Option.some.inj z⟩
      · exact ⟨true, fun _ h4 => absurd h4 (by rw [List.size_toArray]; omega), fun _ h => absurd h h2⟩
    · exact ⟨true, fun h3 _ => absurd h3 (by rw [List.size_toArray]; omega), fun h _ => absurd h h1⟩
  obtain ⟨f, hf⟩ := Classical.skolem.mp H0
  exact ⟨f, fun j => (hf j).1, fun j => (hf j).2⟩
theorem tree_eq (hok : HOk P w H s.heap) (sm : Same G H) : ∀ (n : Nat) (A : Around) (t u : Tr) (v1 v2 : V) (x y : Value), t.knots ≤ n → A.units + n < cLine → Rep G v1 t.d → Rep G v2 u.d → RelV v1 x → RelV v2 y →
    ∃ b, SeqAt.EqAt A s x y b ∧ (b = true ↔ t.d = u.d)
  | 0, _, t, _, _, _, _, _, hk, _, _, _, _, _ => by rw [knots_eq] at hk; omega
  | n + 1, A, t, u, v1, v2, x, y, hk, hu, r1, r2, q1, q2 => by
    obtain ⟨a, av, rfl, ha, ra⟩ := r1.tree
    obtain ⟨c, cv, rfl, hc, rc⟩ := r2.tree
    cases (show x = Value.ref a from q1)
    cases (show y = Value.ref c from q2)
    by_cases hac : a = c
    · subst hac
      exact ⟨true, SeqAt.EqAt.same _, fun _ => r1.one r2, fun _ => rfl⟩
    · obtain ⟨_, xs, rx, hx⟩ := hok a _ (sm _ _ ha)
      obtain ⟨_, ys, ry, hy⟩ := hok c _ (sm _ _ hc)
      have R1 : Reps G (.str t.mark :: av) (.str t.mark :: t.kids.map Tr.d) := .cons (.str _) ra
      have R2 : Reps G (.str u.mark :: cv) (.str u.mark :: u.kids.map Tr.d) := .cons (.str _) rc
      obtain ⟨f, hf, hi⟩ := items_eq (s := s) (A := A.in1) R1 R2 rx ry (fun j v w d e p q hd he rd re rp rq => by
        cases j with
        | zero =>
          have e1 : D.str t.mark = d := by simpa using hd
          have e2 : D.str u.mark = e := by simpa using he
          subst e1 e2
          cases rd
          cases re
          obtain ⟨k1, rfl⟩ := (show ∃ k, p = Value.str t.mark k from rp)
          obtain ⟨k2, rfl⟩ := (show ∃ k, q = Value.str u.mark k from rq)
          refine ⟨_, SeqAt.EqAt.str_str _ _ _ _, ?_⟩
          rw [beq_iff_eq]
          exact ⟨fun z => by rw [z], fun z => by injection z⟩
        | succ i =>
          have hd' : (t.kids.map Tr.d)[i]? = some d := by simpa using hd
          have he' : (u.kids.map Tr.d)[i]? = some e := by simpa using he
          rw [List.getElem?_map] at hd' he'
          obtain ⟨k1, h1, rfl⟩ := Option.map_eq_some_iff.mp hd'
          obtain ⟨k2, h2, rfl⟩ := Option.map_eq_some_iff.mp he'
          have hkn := knots_mem (List.mem_of_getElem? h1)
          rw [knots_eq] at hk
          exact tree_eq hok sm n A.in1 k1 k2 v w p q (by omega) (by show A.units + 1 + n < cLine; omega) rd re rp rq)
      refine ⟨_, SeqAt.EqAt.of_refs hac (SeqAt.RcAt.tuples (show s.heap.IsTuple a xs.toArray from hx) (show s.heap.IsTuple c ys.toArray from hy) (by omega) hf), ?_⟩
      have l1 := rx.length
      have l2 := ry.length
      have l3 := R1.length
      have l4 := R2.length
      rw [Bool.and_eq_true, all_iff, beq_iff_eq, List.size_toArray, List.size_toArray, tree_d t, tree_d u]
      constructor
      · rintro ⟨h1, h2⟩
        congr 1
        exact lists_same (by omega) fun j hj => (hi j hj (by omega)).mp (h1 j (by omega))
      · intro h
        injection h with h
        refine ⟨fun j hj => (hi j (by omega) (by omega)).mpr (by rw [h]), ?_⟩
        have := congrArg List.length h
        omega
end
/-- == of two rows -/
def rEqRow (K : PySem.W.Frag) : R2 := fun x y H Q => ∃ (G : Hp) (ts us : List Tr), Same G H ∧ Rep G x (rowD ts) ∧ Rep G y (rowD us) ∧ knotsOf ts ≤ 100 ∧ ((ts = us → Q (.bl true) H) ∧ (ts ≠ us → Q (.bl false) H))
theorem op_eqRow {X : Cx} {k : Nat} (hr : Room k X.A) : OpR X (compareOp .Eq) (rEqRow X.K) := by
  intro pins s σ H x y v u Q I rx ry h
  obtain ⟨G, ts, us, sm, r1, r2, hk, q1, q2⟩ := h
  have hun := hr.un
  obtain ⟨a, av, rfl, ha, ra⟩ := r1.row
  obtain ⟨c, cv, rfl, hc, rc⟩ := r2.row
  cases (show v = Value.ref a from rx)
  cases (show u = Value.ref c from ry)
  obtain ⟨xs, rv, p1, _⟩ := I.list (SqL.of (K := X.K) (sm _ _ ha))
  obtain ⟨ys, rw', p2, _⟩ := I.list (SqL.of (K := X.K) (sm _ _ hc))
  obtain ⟨f, hf, hi⟩ := items_eq (s := s) (A := X.A.in1) ra rc rv rw' (fun j v w d e p q hd he rd re rp rq => by
    rw [List.getElem?_map] at hd he
    obtain ⟨k1, h1, rfl⟩ := Option.map_eq_some_iff.mp hd
    obtain ⟨k2, h2, rfl⟩ := Option.map_eq_some_iff.mp he
    have hkn := knots_mem (List.mem_of_getElem? h1)
    exact tree_eq I.hok sm 100 X.A.in1 k1 k2 v w p q (by omega) (by show X.A.units + 1 + 100 < cLine; omega) rd re rp rq)
  have l1 := rv.length
  have l2 := rw'.length
  have l3 := ra.length
  have l4 := rc.length
  by_cases hl : xs.length = ys.length
  · refine SeqAt.eq_listAt p1.isList p2.isList (by rw [List.size_toArray, List.size_toArray]; exact hl) (by omega) hf ?_
    have key : (List.range xs.toArray.size).all f = true ↔ ts = us := by
      rw [all_iff, List.size_toArray]
      constructor
      · intro h
        refine rowD_one ?_
        unfold rowD
        congr 1
        exact lists_same (by omega) fun j hj => (hi j hj (by omega)).mp (h j (by omega))
      · rintro rfl j hj
        exact (hi j (by omega) (by omega)).mpr rfl
    cases hb : (List.range xs.toArray.size).all f with
    | true => exact ⟨.bl true, H, I, rfl, q1 (key.mp hb)⟩
    | false => exact ⟨.bl false, H, I, rfl, q2 fun z => by rw [key.mpr z] at hb; cases hb⟩
  · refine SeqAt.eq_list_lengthsAt p1.isList p2.isList (by rw [List.size_toArray, List.size_toArray, bne_iff_ne]; exact hl) (by omega) ⟨.bl false, H, I, rfl, q2 fun z => ?_⟩
    subst z
    omega
end TT
namespace TT
open PySem PySem.Spec PyProof.Rows L2
theorem call_intB {X : Cx} : CallR X (.type "int") (fun xs H Q => ∃ b, xs = [.bl b] ∧ Q (.int (if b = true then 1 else 0)) H) := by
  intro pins s σ H xs us Q I r h
  obtain ⟨b, rfl, k⟩ := h
  obtain ⟨u, rfl, rx⟩ := vals1 r
  cases (show u = Value.bool b from rx)
  exact call_int_bool ⟨.int (if b = true then 1 else 0), H, I.tok _, ⟨_, rfl⟩, k⟩
/-- isinstance of the caught one -/
def rIsiX (K : PySem.W.Frag) (x : Addr) (cls : Value) : List V → Hp → VK → Prop := fun xs H Q => ∃ (C : Addr) (c : V) (u : Value) (b : Bool), cls = .ref C ∧ ExcK K C ∧ xs = [.ref x, c] ∧ (∀ u', RelV c u' → u' = u) ∧ PySem.W.kitOne K (.ref C) u = some b ∧ Q (.bl b) H
theorem call_isiX {X : Cx} {x : Addr} {oe : Obj} {cls : Value} (hcls : oe.cls = cls) : CallR (inH X x oe) (.builtin "isinstance") (rIsiX X.K x cls) := by
  intro pins s σ H xs us Q I r h
  obtain ⟨C, c, u, b, hc, F, rfl, hu, e, k⟩ := h
  obtain ⟨y, z, rfl, r1, r2⟩ := vals2 r
  cases (show y = Value.ref x from r1)
  obtain rfl := hu z r2
  have hp := (I.pin (x, oe) (List.mem_append_left _ List.mem_cons_self)).1
  exact PySem.W.kia_one (kitx_exc F) I.kIn ⟨oe, hp, hcls.trans hc⟩ e (fun q => (nomatch q)) fun tk => ⟨.bl b, H, I.tok tk, rfl, k⟩
end TT
namespace TT
open PySem L2
/-! ### steps -/
def levelsOf (ts : List Tr) (p : List Int) : List (List Tr) := (List.range (p.length + 1)).map fun j => (down ts (p.take j)).getD []
theorem levelsOf_length (ts : List Tr) (p : List Int) : (levelsOf ts p).length = p.length + 1 := by unfold levelsOf; rw [List.length_map, List.length_range]
theorem levelsOf_get {ts us : List Tr} {p : List Int} {j : Nat} (hj : j ≤ p.length) (h : down ts (p.take j) = some us) : (levelsOf ts p)[j]? = some us := by
  unfold levelsOf
  rw [List.getElem?_map, List.getElem?_range (by omega), Option.map_some, h]
  rfl
theorem down_at {ts : List Tr} {p : List Int} (h : (down ts p).isSome = true) {i : Nat} (hi : i < p.length) :
    ∃ us t, down ts (p.take i) = some us ∧ 0 ≤ p[i] ∧ us[(p[i]).toNat]? = some t ∧ down ts (p.take (i + 1)) = some t.kids := by
  have e := down_append ts (p.take i) (p.drop i)
  rw [List.take_append_drop] at e
  cases h1 : down ts (p.take i) with
  | none => rw [h1] at e; rw [e] at h; cases h
  | some us =>
    rw [h1, List.drop_eq_getElem_cons hi] at e
    have e2 : down ts p = down us (p[i] :: p.drop (i + 1)) := e
    rw [down] at e2
    by_cases h0 : p[i] < 0
    · rw [if_pos h0] at e2; rw [e2] at h; cases h
    · rw [if_neg h0] at e2
      cases h2 : us[(p[i]).toNat]? with
      | none => rw [h2] at e2; rw [e2] at h; cases h
      | some t =>
        refine ⟨us, t, rfl, by omega, h2, ?_⟩
        rw [List.take_succ_eq_append_getElem hi, down_append, h1]
        show down us [p[i]] = _
        rw [down, if_neg h0, h2]
        rfl
def setAt : List Tr → List Int → List Tr → List Tr
  | _, [], xs => xs
  | ts, i :: p, xs => match ts[i.toNat]? with
    | none => ts
    | some t => ts.take i.toNat ++ [Tr.node t.mark (setAt t.kids p xs)] ++ ts.drop (i.toNat + 1)
theorem setAt_cons {ts xs : List Tr} {i : Int} {p : List Int} {t : Tr} (h : ts[i.toNat]? = some t) : setAt ts (i :: p) xs = ts.take i.toNat ++ [Tr.node t.mark (setAt t.kids p xs)] ++ ts.drop (i.toNat + 1) := by rw [setAt, h]
theorem knots_cut {ts : List Tr} {i : Nat} {t : Tr} (h : ts[i]? = some t) : knotsOf ts = knotsOf (ts.take i) + (1 + knotsOf t.kids) + knotsOf (ts.drop (i + 1)) := by
  obtain ⟨hi, e⟩ := List.getElem?_eq_some_iff.mp h
  have h1 := knotsOf_append (ts.take i) (ts.drop i)
  rw [List.take_append_drop, List.drop_eq_getElem_cons hi, knotsOf, knots_eq, e] at h1
  omega
theorem setAt_knots : ∀ (p : List Int) (ts us xs : List Tr), down ts p = some us → knotsOf (setAt ts p xs) + knotsOf us = knotsOf ts + knotsOf xs
  | [], ts, us, xs, h => by cases h; rw [setAt]; omega
  | i :: p, ts, us, xs, h => by
    rw [down] at h
    by_cases h0 : i < 0
    · rw [if_pos h0] at h; cases h
    · rw [if_neg h0] at h
      cases h2 : ts[i.toNat]? with
      | none => rw [h2] at h; cases h
      | some t =>
        rw [h2] at h
        have := setAt_knots p t.kids us xs h
        have hc := knots_cut h2
        rw [setAt_cons h2, knotsOf_append, knotsOf_append, knotsOf, knotsOf, Tr.knots]
        omega
inductive Stp where
  | mark (p : List Int) (m : Str) | cut (p : List Int) | put (p : List Int) (n : Int) (m : Str)
def Stp.path : Stp → List Int
  | .mark p _ => p
  | .cut p => p
  | .put p _ _ => p
def Stp.many : Stp → Int
  | .put _ n _ => n
  | _ => 1
def Stp.kind : Stp → Str
  | .mark _ _ => Str.ofString "mark"
  | .cut _ => Str.ofString "cut"
  | .put _ _ _ => Str.ofString "put"
def Stp.d : Stp → D
  | .mark p m => .tup [.str (Str.ofString "mark"), pathD p, .str m]
  | .cut p => .tup [.str (Str.ofString "cut"), pathD p]
  | .put p n m => .tup [.str (Str.ofString "put"), pathD p, .int n, .str m]
def Stp.instead : Stp → List Tr → List Tr
  | .mark _ m, t :: _ => [.node m t.kids]
  | .cut _, t :: _ => t.kids
  | .put _ _ m, ts => [.node m ts]
  | _, [] => []
/-- the trees beside, where the step can be done -/
def Stp.beside (st : Stp) (row : List Tr) : Option (List Tr) :=
  if st.path = [] then none else (down row st.path.dropLast).bind fun bs => if st.path.getLastD 0 < 0 ∨ st.many < 0 ∨ (bs.length : Int) < st.path.getLastD 0 + st.many then none else some bs
def Stp.row (st : Stp) (row bs : List Tr) : List Tr :=
  setAt row st.path.dropLast (bs.take (st.path.getLastD 0).toNat ++ st.instead ((bs.drop (st.path.getLastD 0).toNat).take st.many.toNat) ++ bs.drop ((st.path.getLastD 0).toNat + st.many.toNat))
def Stp.Fit (st : Stp) : Prop := st.path.length ≤ 1000 ∧ (∀ a ∈ st.path, Small a) ∧ Small st.many
theorem Rep.stepOf {G : Hp} {v : V} {k : Str} {p : List Int} {rest : List D} (r : Rep G v (.tup (.str k :: pathD p :: rest))) (hl : rest.length ≤ 2) : ∃ a xs pa, v = .ref a ∧ G a = some (.tup xs) ∧ xs[0]? = some (.str k) ∧ xs[1]? = some (.ref pa) ∧ G pa = some (.lst (p.map V.int)) ∧ xs.length ≤ 4 := by
  cases r with
  | tup h t =>
    obtain ⟨x, hx, rx⟩ := t.get (i := 0) (d := .str k) rfl
    obtain ⟨y, hy, ry⟩ := t.get (i := 1) (d := pathD p) rfl
    cases rx
    obtain ⟨pa, rfl, hpa⟩ := Rep.path ry
    have e := t.length
    exact ⟨_, _, pa, rfl, h, hx, hy, hpa, by rw [e]; exact Nat.succ_le_succ (Nat.succ_le_succ hl)⟩
theorem Rep.step {G : Hp} {v : V} {st : Stp} (r : Rep G v st.d) : ∃ a xs pa, v = .ref a ∧ G a = some (.tup xs) ∧ xs[0]? = some (.str st.kind) ∧ xs[1]? = some (.ref pa) ∧ G pa = some (.lst (st.path.map V.int)) ∧ xs.length ≤ 4 := by
  cases st with
  | mark p m => exact Rep.stepOf (k := Str.ofString "mark") (p := p) (rest := [.str m]) r (by show 1 ≤ 2; decide)
  | cut p => exact Rep.stepOf (k := Str.ofString "cut") (p := p) (rest := []) r (by show 0 ≤ 2; decide)
  | put p n m => exact Rep.stepOf (k := Str.ofString "put") (p := p) (rest := [.int n, .str m]) r (by show 2 ≤ 2; decide)
theorem last_int {p : List Int} (h : p ≠ []) : atI (p.map V.int) (-1) = some (.int (p.getLastD 0)) := by
  obtain ⟨q, i, rfl⟩ : ∃ q i, p = q ++ [i] := ⟨p.dropLast, p.getLast h, (List.dropLast_concat_getLast h).symm⟩
  unfold atI ixN
  rw [if_neg (by decide), if_pos (by simp only [List.length_map, List.length_append, List.length_singleton]; omega)]
  have e : ((-1 : Int) + (((q ++ [i]).map V.int).length : Int)).toNat = q.length := by simp only [List.length_map, List.length_append, List.length_singleton]; omega
  rw [Option.bind_some, e]
  simp
theorem front_ints (p : List Int) : cutV (p.map V.int) none (some (-1)) = p.dropLast.map V.int := by
  rw [cut_front, List.length_map, List.dropLast_eq_take, List.map_take]
/-- what is done with the last level -/
theorem last_of_levels {ts us : List Tr} {p : List Int} {vs : List V} {G : Hp} (r : Reps G vs ((levelsOf ts p).map rowD)) (h : down ts p = some us) : ∃ v, atI vs (-1) = some v ∧ Rep G v (rowD us) := by
  have hl := r.length
  rw [List.length_map, levelsOf_length] at hl
  have hg := levelsOf_get (Nat.le_refl _) (show down ts (p.take p.length) = some us by rw [List.take_length]; exact h)
  obtain ⟨v, hv, rv⟩ := r.get (i := p.length) (d := rowD us) (by rw [List.getElem?_map, hg]; rfl)
  refine ⟨v, ?_, rv⟩
  unfold atI ixN
  rw [if_neg (by decide), if_pos (by omega)]
  have e : ((-1 : Int) + (vs.length : Int)).toNat = p.length := by omega
  rw [Option.bind_some, e, hv]
/-- a list of ours is frozen as it stands -/
theorem Ext.freeze {G H G2 H2 : Hp} {a : Addr} {o : HO} (x : Ext G H G2 H2) (n : G2 a = none) (nh : H a = none) (h : H2 a = some o) : Ext G H (upd G2 a o) H2 := by
  refine ⟨x.g.trans (same_upd n), fun b u e => ?_, x.h, fun b u e => ?_⟩
  · by_cases hb : b = a
    · subst hb
      rw [upd_same] at e
      cases e
      exact h
    · rw [upd_ne hb] at e
      exact x.gh b u e
  · rw [upd_ne (ne_of_none e nh)]
    exact x.new b u e
end TT
namespace TT
open PySem PySem.Spec PyProof.Rows L2
/-! ### a list comprehension with one clause, at most one test, whose block captures names -/
theorem forIn_fold {α β : Type} {l : List α} {f : α → β → Sem (ForInStep β)} (h : α → β → β) : ∀ (c : β), (∀ x ∈ l, ∀ c, f x c = pure (.yield (h x c))) → forIn l c f = pure (l.foldl (fun c x => h x c) c) := by
  induction l with
  | nil => intro c _; rfl
  | cons x l ih =>
    intro c hf
    rw [List.forIn_cons, hf x List.mem_cons_self, pure_bind, List.foldl_cons]
    exact ih _ fun y hy => hf y (List.mem_cons_of_mem _ hy)
def capsOf (env : Env) (names : List (Str × NameKind)) (acc : List (Str × Addr)) : List (Str × Addr) := names.foldl (fun c x => if (x.2 == NameKind.free) = true then (x.1, (env.cells.lookup x.1).getD 0) :: c else c) acc
theorem capsOf_sub {env : Env} : ∀ (names : List (Str × NameKind)) (acc : List (Str × Addr)), (∀ y ∈ names, y.2 = .free → ∃ c, env.cells.lookup y.1 = some c) → (∀ y c, acc.lookup y = some c → env.cells.lookup y = some c) →
    ∀ y c, (capsOf env names acc).lookup y = some c → env.cells.lookup y = some c
  | [], acc, _, ha, y, c, h => ha y c h
  | x :: names, acc, hn, ha, y, c, h => by
    refine capsOf_sub names _ (fun z hz => hn z (List.mem_cons_of_mem _ hz)) ?_ y c h
    intro z d hd
    dsimp only at hd
    by_cases hf : (x.2 == NameKind.free) = true
    · rw [if_pos hf] at hd
      rw [List.lookup_cons] at hd
      cases hz : z == x.1 with
      | true =>
        rw [hz] at hd
        have e : z = x.1 := by simpa using hz
        obtain ⟨c', hc'⟩ := hn x (List.mem_cons_self ..) (by simpa using hf)
        rw [hc'] at hd
        rw [e, hc']
        simpa using hd
      | false => rw [hz] at hd; exact ha z d hd
    · rw [if_neg hf] at hd
      exact ha z d hd
theorem capsOf_has {env : Env} : ∀ (names : List (Str × NameKind)) (acc : List (Str × Addr)) (y : Str), ((∃ c, acc.lookup y = some c) ∨ (y, NameKind.free) ∈ names) → ∃ c, (capsOf env names acc).lookup y = some c
  | [], acc, y, h => by
    rcases h with h | h
    · exact h
    · exact nomatch h
  | x :: names, acc, y, h => by
    refine capsOf_has names _ y ?_
    dsimp only
    by_cases hf : (x.2 == NameKind.free) = true
    · rw [if_pos hf, List.lookup_cons]
      cases hz : y == x.1 with
      | true => exact .inl ⟨_, rfl⟩
      | false =>
        rcases h with h | h
        · exact .inl h
        · rcases List.mem_cons.mp h with e | h
          · rw [← e] at hz; simp at hz
          · exact .inr h
    · rw [if_neg hf]
      rcases h with h | h
      · exact .inl h
      · rcases List.mem_cons.mp h with e | h
        · rw [← e] at hf; exact absurd rfl hf
        · exact .inr h
theorem closure_caps {env : Env} {scope : Scope} (h : ∀ y ∈ scope.names, y.2 = .free → ∃ c, env.cells.lookup y.1 = some c) : closureFor scope env = pure (capsOf env scope.names []) := by
  simp only [closureFor]
  rw [forIn_fold (fun x c => if (x.2 == NameKind.free) = true then (x.1, (env.cells.lookup x.1).getD 0) :: c else c) [] (fun x hx c => by
    obtain ⟨n, k⟩ := x
    by_cases hf : (k == NameKind.free) = true
    · obtain ⟨a, ha⟩ := h _ hx (by simpa using hf)
      simp only [hf, if_true, cellOf, ha, pure_bind, Option.getD_some]
    · simp only [hf, if_false, Bool.false_eq_true])]
  rfl
def compXC (X : Cx) (scope : Scope) (cl : List (Str × Addr)) (C : Addr) (N : List Str) (s2 : Shared) (H2 : Hp) (fp : List Addr) : Cx :=
  { X with N := N, s₀ := s2, H₀ := H2, env := compEnvC scope cl C X.env, outer := X.stack, stack := X.stack, ex := fp, fn := fun _ => false, pn := [], xe := fun _ _ => False }
/-- the block's slots at the start of a turn: its own names, then what is captured -/
def cap0 (n : Nat) (caps : List Nat) (σ : L2.St) : L2.St := List.replicate n none ++ caps.map fun j => (σ[j]?).join
def tFillC (g : TG) (te : TE) (n : Nat) (caps : List Nat) (J : It) (σ : L2.St) (H1 : Hp) (Q : VK) : Prop := ∀ acc, H1 acc = none → ∃ W : Nat → Nat → Hp → List V → Prop, (∃ m, W 0 m (upd H1 acc (.lst [])) []) ∧
  ∀ i m H2 ys, W i m H2 ys → H2 acc = some (.lst ys) → (J.stop i H2 ∧ Q (.ref acc) H2) ∨ (J.go i H2 ∧ ys.length < sizeLine ∧ ∀ x H3, J.yld i H2 x H3 → g x (cap0 n caps σ) H3 fun σ2 H4 =>
    (∀ (j : Nat) (v : V), (cap0 n caps σ)[j]? = some (some v) → σ2[j]? = some (some v)) ∧ te σ2 H4 fun y H6 => H6 acc = some (.lst ys) ∧ ∃ m', m' < m ∧ W (i + 1) m' (upd H6 acc (.lst (ys ++ [y]))) (ys ++ [y]))
def tCompC (wi : TI) (g : TG) (te : TE) (n : Nat) (caps : List Nat) : TE := fun σ H Q => wi σ H fun J H1 => tFillC g te n caps J σ H1 Q
/-- what is seen of the text: the block's names, its captured ones -/
structure CapOk (X : Cx) (scope : Scope) (N : List Str) (n : Nat) (caps : List Nat) : Prop where
  kind : scope.kind = .function
  cell : ∀ y ∈ scope.names, y.2 ≠ .cell
  names : ∀ y ∈ scope.names, y.2 = .local → scope.names.lookup y.1 = some .local
  len : N.length = n + caps.length
  free : ∀ y ∈ scope.names, y.2 = .free → X.env.scope.names.lookup y.1 = some .cell
  caps : ∀ (i j : Nat), caps[i]? = some j → ∃ y, N[n + i]? = some y ∧ X.N[j]? = some y ∧ X.env.scope.names.lookup y = some .cell ∧ scope.names.lookup y = some .free
theorem relabel_free {env : Env} : ∀ {names : List (Str × NameKind)} {x : Str} {k : NameKind}, (∀ y ∈ names, y.2 ≠ .cell) → (names.map fun (n, k) => if (k == NameKind.free && env.scope.kind == .function && env.kindOf n == some .cell) then (n, NameKind.cell) else (n, k)).lookup x = some k →
    (k = .cell ∨ k = .free) → (x, NameKind.free) ∈ names
  | [], x, k, _, e, _ => by simp at e
  | (n, kn) :: l, x, k, hc, e, hk => by
    rw [List.map_cons, List.lookup_cons] at e
    cases hx : x == n with
    | true =>
      have ex : x = n := by simpa using hx
      subst ex
      have hkn : kn = .free := by
        by_cases hf : kn = .free
        · exact hf
        · exfalso
          have eb : (kn == NameKind.free) = false := by simpa using hf
          simp only [eb, Bool.false_and, Bool.false_eq_true, if_false] at e
          rw [hx] at e
          simp only at e
          cases e
          rcases hk with z | z
          · exact hc _ (List.mem_cons_self ..) z
          · exact hf z
      rw [hkn]
      exact List.mem_cons_self ..
    | false =>
      refine List.mem_cons_of_mem _ (relabel_free (env := env) (fun y hy => hc y (List.mem_cons_of_mem _ hy)) ?_ hk)
      by_cases hf : (kn == NameKind.free && env.scope.kind == .function && env.kindOf n == some .cell) = true
      · rw [if_pos hf] at e
        simp only at e
        rw [hx] at e
        exact e
      · rw [if_neg hf] at e
        simp only at e
        rw [hx] at e
        exact e
section
variable {X : Cx}
theorem compOkC {pins : List (Addr × Obj)} {σ : L2.St} {H : Hp} {s : Shared} {scope : Scope} {C : Addr} {N : List Str} {n : Nat} {caps : List Nat} {fp : List Addr} (I : Inv X pins σ H s) (hc : X.calm = true) (co : CapOk X scope N n caps)
    (hC : s.heap.objs.size ≤ C) (hf : ∀ b ∈ fp, FpOk X pins H b) (hlt : ∀ b ∈ fp, b < s.heap.objs.size) (hsub : ∀ y c, (capsOf X.env scope.names []).lookup y = some c → X.env.cells.lookup y = some c) : (compXC X scope (capsOf X.env scope.names []) C N s H fp).Ok where
  mod := I.ok.mod
  kind := co.kind
  glob := I.ok.glob
  blt := I.ok.blt
  above := hC
  inj := fun x y c e e' => I.ok.inj x y c (hsub x c e) (hsub y c e')
  has := fun x hx => by
    have key : ∀ k, (k = NameKind.cell ∨ k = .free) → (compXC X scope (capsOf X.env scope.names []) C N s H fp).env.kindOf x = some k → ∃ c, (capsOf X.env scope.names []).lookup x = some c := fun k hk e =>
      capsOf_has scope.names [] x (.inr (relabel_free (env := X.env) co.cell e hk))
    rcases hx with e | e
    · exact key _ (.inl rfl) e
    · exact key _ (.inr rfl) e
  cab := fun x c e _ => nomatch e
  hd := fun _ => I.ok.hd hc
  frames := I.ok.frames
  stk := .inl rfl
  exf := fun b hb => ⟨Nat.ne_of_lt (Nat.lt_of_lt_of_le (hlt b hb) hC), fun x c e => (hf b hb).2.2.2.2.1 x c (hsub x c e)⟩
  bs := I.bs
  bsz := Nat.le_trans I.ok.bsz I.sz
  noex := fun b o e hb => by
    rcases (hf b hb).2.2.2.1 with z | z
    · exact I.ok.noex b o e z
    · exact absurd (Nat.lt_of_lt_of_le (Heap.lt_size e) (Nat.le_trans I.ok.bsz z)) (Nat.lt_irrefl _)
  exfs := fun b hb z => by
    rcases List.mem_cons.mp (I.stkSub b z) with e | z
    · exact (hf b hb).2.1 e
    · exact (hf b hb).2.2.1 z
  funs := I.stack
  frf := I.stkFree
theorem mem_of_lookup : ∀ {l : List (Str × NameKind)} {x : Str} {k : NameKind}, l.lookup x = some k → (x, k) ∈ l
  | (n, kn) :: l, x, k, h => by
    rw [List.lookup_cons] at h
    cases hx : x == n with
    | true =>
      rw [hx] at h
      have e : x = n := by simpa using hx
      cases h
      rw [e]
      exact List.mem_cons_self ..
    | false =>
      rw [hx] at h
      exact List.mem_cons_of_mem _ (mem_of_lookup h)
theorem lookup_relabel_free {env : Env} : ∀ {names : List (Str × NameKind)} {x : Str}, names.lookup x = some .free →
    (names.map fun (n, k) => if (k == NameKind.free && env.scope.kind == .function && env.kindOf n == some .cell) then (n, NameKind.cell) else (n, k)).lookup x = some .cell ∨
    (names.map fun (n, k) => if (k == NameKind.free && env.scope.kind == .function && env.kindOf n == some .cell) then (n, NameKind.cell) else (n, k)).lookup x = some .free
  | (n, k) :: r, x, h => by
    rw [List.lookup_cons] at h
    rw [List.map_cons, List.lookup_cons]
    cases hx : x == n with
    | true =>
      rw [hx] at h
      cases h
      by_cases hf : (NameKind.free == NameKind.free && env.scope.kind == .function && env.kindOf n == some .cell) = true
      · left
        simp only [hf, if_true, hx]
      · right
        rw [if_neg hf]
        simp only [hx]
    | false =>
      rw [hx] at h
      have ih := lookup_relabel_free (env := env) h
      by_cases hf : (k == NameKind.free && env.scope.kind == .function && env.kindOf n == some .cell) = true
      · rw [if_pos hf]
        simp only [hx]
        exact ih
      · rw [if_neg hf]
        simp only [hx]
        exact ih
theorem ok_kind {scope : Scope} {x : Str} (h : scope.names.lookup x = some .free) : ((relabel scope X.env).names.lookup x = some .cell ∨ (relabel scope X.env).names.lookup x = some .free) := lookup_relabel_free (env := X.env) h
/-- the tests of a clause -/
def PTs (X : Cx) (ifs : List Expr) (tt : L2.TT) : Prop := ∀ (pins : List (Addr × Obj)) (s : Shared) (σ : L2.St) (H : Hp) (Q : Bool → Hp → Prop), Inv X pins σ H s → tt σ H Q →
  wpAny (model X.prog X.w) X.A (forIn ifs true fun c r => if r = true then do let ok ← isTrue c X.env (eval c X.env); pure (ForInStep.yield ok) else pure (ForInStep.yield r)) (TP X pins σ Q) X.xe s
theorem pts_nil : PTs X [] fun _ H Q => Q true H := fun _ _ _ H _ I h => wpAny_tests_nil ⟨H, I, h⟩
theorem pts_one {c : Expr} {tc : L2.TT} (h : PT X c tc) : PTs X [c] tc := fun pins s σ H Q I q => wpAny_tests_one (h pins s σ H Q I q)
def tFillT (g : TG) (tt : L2.TT) (te : TE) (n : Nat) (caps : List Nat) (J : It) (σ : L2.St) (H1 : Hp) (Q : VK) : Prop := ∀ acc, H1 acc = none → ∃ W : Nat → Nat → Hp → List V → Prop, (∃ m, W 0 m (upd H1 acc (.lst [])) []) ∧
  ∀ i m H2 ys, W i m H2 ys → H2 acc = some (.lst ys) → (J.stop i H2 ∧ Q (.ref acc) H2) ∨ (J.go i H2 ∧ ys.length < sizeLine ∧ ∀ x H3, J.yld i H2 x H3 → g x (cap0 n caps σ) H3 fun σ2 H4 =>
    (∀ (j : Nat) (v : V), (cap0 n caps σ)[j]? = some (some v) → σ2[j]? = some (some v)) ∧ tt σ2 H4 fun b H5 => if b = true then te σ2 H5 fun y H6 => H6 acc = some (.lst ys) ∧ ∃ m', m' < m ∧ W (i + 1) m' (upd H6 acc (.lst (ys ++ [y]))) (ys ++ [y])
      else H5 acc = some (.lst ys) ∧ ∃ m', m' < m ∧ W (i + 1) m' H5 ys)
def tCompT (wi : TI) (g : TG) (tt : L2.TT) (te : TE) (n : Nat) (caps : List Nat) : TE := fun σ H Q => wi σ H fun J H1 => tFillT g tt te n caps J σ H1 Q
theorem comp_core {elt tg iter : Expr} {ifs : List Expr} {scope : Scope} {pos : Pos} {N : List Str} {n : Nat} {caps : List Nat} {wi : TI} {g : TG} {tt : L2.TT} {te : TE} {use : Option (Value → Sem Unit)} {PP : Value → Shared → Prop} {R : It → Hp → Prop} {pins : List (Addr × Obj)} {s : Shared} {σ : L2.St} {H : Hp} {Q : VK} (hc : X.calm = true) (hi : PI X tg iter wi) (co : CapOk X scope N n caps) (hg : ∀ cl C s2 H2 fp, PG (compXC X scope cl C N s2 H2 fp) tg g)
    (ht : ∀ cl C s2 H2 fp, PTs (compXC X scope cl C N s2 H2 fp) ifs tt) (he : ∀ cl C s2 H2 fp, PE (compXC X scope cl C N s2 H2 fp) elt te) (hs : ∀ x, foldedSetIterable iter X.env x = pure x) (I : Inv X pins σ H s) (h : wi σ H R) (hR : ∀ J H1, R J H1 → tFillT g tt te n caps J σ H1 Q)
    (fin : ∀ (acc C : Addr) (cl : List (Str × Addr)) (s2 s5 : Shared) (H2 H' : Hp) (fp : List Addr) (σ' : L2.St), Inv X pins σ H2 s2 → s2.heap.objs.size ≤ C → (∀ b ∈ fp, FpOk X pins H2 b) → Inv (compXC X scope cl C N s2 H2 fp) [] σ' H' s5 → Q (.ref acc) H' → compPost (model X.prog X.w) X.A X.xe use PP (.ref acc) C (.ok .next) s5) :
    wpAny (model X.prog X.w) X.A (comprehension (.ListComp elt [⟨tg, iter, ifs, 0⟩] scope pos) scope X.env (firstIterPos [⟨tg, iter, ifs, 0⟩] pos) (newList []) (firstAsync [⟨tg, iter, ifs, 0⟩]) (firstIter [⟨tg, iter, ifs, 0⟩] X.env) use) PP X.xe s := by
  have hcells : ∀ y ∈ scope.names, y.2 = .free → ∃ c, X.env.cells.lookup y.1 = some c := fun y hy hf => I.ok.has y.1 (.inl (co.free y hy hf))
  have hsub := capsOf_sub (env := X.env) scope.names [] hcells (fun _ _ z => nomatch z)
  have hhas : ∀ y, (y, NameKind.free) ∈ scope.names → ∃ c, (capsOf X.env scope.names []).lookup y = some c := fun y hy => capsOf_has scope.names [] y (.inr hy)
  refine wpAny_comprehension_free (cl := capsOf X.env scope.names []) (use := use) rfl hs (closure_caps hcells) co.kind co.names (thn (hi pins s σ H _ I h) fun v s1 h1 => thn h1 fun itv s2 h2 => ?_)
  obtain ⟨it, fp, tn, J, H2, rfl, I2, T, st2, f2, q⟩ := h2
  have hlt : ∀ b ∈ fp, b < s2.heap.objs.size := fun b hb => let ⟨o, e, _⟩ := T.obj _ _ st2 b hb; Heap.lt_size e
  refine wpAny_newObj_type (wpAny_newFunctionEnv co.cell (by intro y hy; simp at hy) (fun h1 hns hsb => ?_) co.kind)
  obtain ⟨W, ⟨m0, w0⟩, turn⟩ := hR _ _ q s2.heap.objs.size I2.fresh
  have hCs : (s2.heap.push { cls := .type "list", dict := none, data := .seq ([] : List Value).toArray }).objs.size = s2.heap.objs.size + 1 := Heap.size_push ..
  dsimp only at hns hsb ⊢
  generalize hC : (s2.heap.push { cls := .type "list", dict := none, data := .seq ([] : List Value).toArray }).objs.size = C at hns hsb hCs ⊢
  have leC : s2.heap.objs.size ≤ C := by omega
  have old : ∀ b o, s2.heap.get? b = some o → h1.get? b = some o := fun b o e => by
    have hb := Heap.lt_size e
    exact hsb.extBut b o (Nat.ne_of_lt (Nat.lt_of_lt_of_le hb leC)) (Heap.get?_push_of_some _ (Heap.get?_push_of_some _ e))
  have accAt : h1.get? s2.heap.objs.size = some { cls := .type "list", dict := none, data := .seq ([] : List Value).toArray } :=
    hsb.extBut _ _ (Nat.ne_of_lt (by omega)) (Heap.get?_push_of_some _ (Heap.get?_push_size _ rfl))
  have hCn : H2 C = none := I2.hok.fresh leC
  have ok0 := compOkC (N := N) (C := C) I2 hc co leC f2 hlt hsub
  generalize hcl : capsOf X.env scope.names [] = cl at *
  have I4 : Inv (compXC X scope cl C N s2 H2 fp) [] (cap0 n caps σ) (upd H2 s2.heap.objs.size (.lst [])) { s2 with heap := h1, toks := s2.toks + ([] : List (Str × Value)).length } := by
    refine ⟨ok0, rfl, I2.bare, Un.laid old (Nat.le_refl _) I2.fresh, ⟨_, hns, fun i x v ex ev hv => ?_⟩, (fun x c e => ?_), ?_, (fun x c e => ?_), (fun p hp => (nomatch hp)), ?_, ?_⟩
    · unfold cap0 at ev
      by_cases hin : i < n
      · rw [List.getElem?_append_left (by rw [List.length_replicate]; exact hin), List.getElem?_replicate, if_pos hin] at ev
        cases ev
      · rw [List.getElem?_append_right (by rw [List.length_replicate]; omega), List.length_replicate, List.getElem?_map] at ev
        obtain ⟨j, hj, ej⟩ := Option.map_eq_some_iff.mp ev
        obtain ⟨y, hy1, hy2, hy3, hy4⟩ := co.caps _ _ hj
        rw [show n + (i - n) = i by omega] at hy1
        have exy : x = y := Option.some.inj (ex.symm.trans hy1)
        subst exy
        have esv : σ[j]? = some (some v) := by
          cases z : σ[j]? with
          | none => rw [z] at ej; cases ej
          | some o => rw [z] at ej; exact congrArg some ej
        obtain ⟨m2, hm2, hl2⟩ := I2.loc
        obtain ⟨u, ru, lk⟩ := hl2 j x v hy2 esv (.inr (.inl hy3))
        refine ⟨u, ru, ?_⟩
        rcases lk with ⟨kk, _⟩ | ⟨_, c, hc1, hc2⟩
        · rw [show X.env.kindOf x = some .cell from hy3] at kk
          cases kk
        · right
          obtain ⟨c', hc'⟩ := hhas x (mem_of_lookup hy4)
          have e1 := hsub x c' hc'
          rw [hc1] at e1
          cases e1
          refine ⟨?_, c, hc', hc2.keeps old⟩
          exact ok_kind (X := X) hy4
    · obtain ⟨v, hv⟩ := I2.cell x c (hsub x c e)
      exact ⟨v, hv.keeps old⟩
    · show upd H2 s2.heap.objs.size (.lst []) C = none
      rw [upd_ne (Nat.ne_of_gt (by omega))]
      exact hCn
    · obtain ⟨v, hv⟩ := I2.cell x c (hsub x c e)
      rw [upd_ne (Nat.ne_of_lt hv.lt)]
      exact I2.freeC x c (hsub x c e)
    · exact I2.hok.laid old (Nat.le_refl _) ⟨Nat.zero_le _, [], 0, .nil, accAt⟩
    · show (cap0 n caps σ).length = N.length
      unfold cap0
      rw [List.length_append, List.length_replicate, List.length_map, co.len]
  have st4 : tn 0 h1 := T.keep _ _ _ st2 fun b _ o e => old b o e
  have fr4 : ∀ b ∈ fp, upd H2 s2.heap.objs.size (.lst []) b = none := fun b hb => by
    rw [upd_ne (Nat.ne_of_lt (hlt b hb))]
    exact (f2 b hb).1
  have stat : ∀ {pn : List (Addr × Obj)} {H' : Hp}, (∀ p ∈ pn, p.1 ∉ fp) → (∀ b ∈ fp, H' b = none) → ∀ b ∈ fp, FpOk (compXC X scope cl C N s2 H2 fp) pn H' b := fun hpn hn b hb =>
    ⟨hn b hb, Nat.ne_of_lt (Nat.lt_of_lt_of_le (hlt b hb) leC), ok0.exfs b hb, .inl hb, (fun x c e => (ok0.exf b hb).2 x c e), fun p hp z => hpn p hp (z ▸ hb)⟩
  have loop : ∀ s4 : Shared, s4 = { s2 with heap := h1, toks := s2.toks + ([] : List (Str × Value)).length } →
      codeAny (model X.prog X.w) X.A (.compLoop (.ListComp elt [⟨tg, iter, ifs, 0⟩] scope pos) 0 (.ref it) (.ref s2.heap.objs.size) (compEnvC scope cl C X.env))
        (compPost (model X.prog X.w) X.A X.xe use PP (.ref s2.heap.objs.size) C) s4 := by
    rintro s4 rfl
    refine codeAny_loop rfl (fun m s' => ∃ i σ' H' ys, Inv (compXC X scope cl C N s2 H2 fp) [] σ' H' s' ∧ (∀ (j : Nat) (v : V), (cap0 n caps σ)[j]? = some (some v) → σ'[j]? = some (some v)) ∧ tn i s'.heap ∧ (∀ b ∈ fp, H' b = none) ∧ H' s2.heap.objs.size = some (.lst ys) ∧ W i m H' ys) ?_ m0 ⟨0, _, _, [], I4, fun _ _ z => z, st4, fr4, upd_same, w0⟩
    rintro m s' ⟨i, σ', H', ys, I', wk', st', fr', ha', w'⟩
    show wpAny _ _ ((compTurn (.ListComp elt [⟨tg, iter, ifs, 0⟩] scope pos) 0 (.ref it) (.ref s2.heap.objs.size) (compEnvC scope cl C X.env)).onRaise (fun x => do noteFrame x (compEnvC scope cl C X.env); theTreesLotGoes x)) _ _ s'
    refine wpAny_noted ?_
    rw [compTurn_list]
    refine wpAny_bind (wpAny_standAt (wpAny_bind ?_))
    rcases turn i m H' ys w' ha' with ⟨stop, qn⟩ | ⟨go, hz, step⟩
    · refine thn (T.done (compXC X scope cl C N s2 H2 fp) rfl rfl rfl hc i [] s' σ' H' _ I' (stat ((fun p hp => (nomatch hp))) fr') st' stop) fun r s5 ⟨hr, I5⟩ => ?_
      subst hr
      exact wpAny_pure (fin _ _ _ _ _ _ _ _ _ I2 leC f2 I5 qn)
    · refine thn (T.item (compXC X scope cl C N s2 H2 fp) rfl rfl rfl hc i [] s' σ' H' _ I' (stat ((fun p hp => (nomatch hp))) fr') st' go) fun r s5 ⟨u, hr, h5⟩ => ?_
      subst hr
      refine wpAny_bind (thn h5 fun _ s6 ⟨x, H6, I6, r6, y6, st6, fr6⟩ => ?_)
      have I6' := (I6.weak (σ' := cap0 n caps σ) (by rw [I4.len]; exact I6.len.symm) wk').pinned (stat ((fun p hp => (nomatch hp))) fr6) (T.obj _ _ st6)
      refine wpAny_bind (wpAny_mono (hg cl C s2 H2 fp _ s6 _ H6 x u _ I6' r6 (step x H6 y6)) (fun _ s7 ⟨σ7, H7, I7, wk7, q7⟩ => ?_) fun _ _ z => False.elim z)
      have kp : ∀ {s9 : Shared} {H9 : Hp} {σ9 : L2.St}, Inv (compXC X scope cl C N s2 H2 fp) ([] ++ pinsAt fp s6.heap) σ9 H9 s9 → tn (i + 1) s9.heap ∧ ∀ b ∈ fp, H9 b = none := fun I9 =>
        ⟨T.keep _ _ _ st6 fun b hb o e => (I9.pin (b, o) (List.mem_append_right _ (mem_pinsAt hb e))).1, fun b hb => let ⟨o, e, _⟩ := T.obj _ _ st6 b hb; (I9.pin (b, o) (List.mem_append_right _ (mem_pinsAt hb e))).2.1⟩
      refine wpAny_bind (wpAny_mono (ht cl C s2 H2 fp _ s7 σ7 H7 _ I7 q7) (fun ok s8 ⟨H8, I8, q8⟩ => ?_) fun _ _ z => False.elim z)
      cases ok with
      | false =>
        rw [if_neg Bool.false_ne_true] at q8
        obtain ⟨ha8, m8, hm8, w8⟩ := q8
        exact wpAny_pure ⟨rfl, m8, hm8, i + 1, σ7, _, ys, I8.unpinned, wk7, (kp I8).1, (kp I8).2, ha8, w8⟩
      | true =>
        rw [if_pos rfl] at q8
        refine wpAny_bind (wpAny_bind (wpAny_mono (he cl C s2 H2 fp _ s8 σ7 H8 _ I8 q8) (fun v9 s9 ⟨y, H9, I9, r9, ha9, m9, hm9, w9⟩ => ?_) fun _ _ z => False.elim z))
        refine wpAny_bind (wpAny_mono (mt_append (X := compXC X scope cl C N s2 H2 fp) _ s9 σ7 H9 (.ref s2.heap.objs.size) [y] _ [v9] (fun _ HA => HA = upd H9 s2.heap.objs.size (.lst (ys ++ [y]))) I9 rfl (.cons r9 .nil) ⟨_, ys, y, rfl, rfl, ha9, hz, rfl⟩) (fun _ sA ⟨_, HA, IA, _, eA⟩ => ?_) fun _ _ z => False.elim z)
        subst eA
        exact wpAny_pure (wpAny_pure ⟨rfl, m9, hm9, i + 1, σ7, _, ys ++ [y], IA.unpinned, wk7, (kp IA).1, (kp IA).2, upd_same, w9⟩)
  exact codeAny_compStart_list (loop _ rfl) (T.self _ 0 _ _ _ st4 (loop _ rfl))
theorem pe_compC {elt tg iter : Expr} {scope : Scope} {pos : Pos} {N : List Str} {n : Nat} {caps : List Nat} {wi : TI} {g : TG} {te : TE} (hc : X.calm = true) (hi : PI X tg iter wi) (co : CapOk X scope N n caps) (hg : ∀ cl C s2 H2 fp, PG (compXC X scope cl C N s2 H2 fp) tg g)
    (he : ∀ cl C s2 H2 fp, PE (compXC X scope cl C N s2 H2 fp) elt te) (hs : ∀ x, foldedSetIterable iter X.env x = pure x := by intro _; rfl) : PE X (.ListComp elt [⟨tg, iter, [], 0⟩] scope pos) (tCompC wi g te n caps) := by
  intro pins s σ H Q I h
  rw [eval_ListComp]
  refine comp_core (ifs := []) (tt := fun _ H Q => Q true H) (R := fun J H1 => tFillC g te n caps J σ H1 Q) (Q := Q) hc hi co hg (fun _ _ _ _ _ => pts_nil) he hs I h (fun _ _ r => r) (fun acc C cl s2 s5 H2 H' fp σ' I2 leC f2 I5 qn => ?_)
  obtain ⟨m5, hn5, _⟩ := I5.loc
  refine ⟨m5, hn5, fun h' sb => ?_⟩
  have sb' : Heap.SameBut C s5.heap h' := sb
  have up : ∀ b o, s2.heap.get? b = some o → ∀ o', s5.heap.get? b = some o' → h'.get? b = some o' := fun b o e o' e' => (sb'.2 b (Nat.ne_of_lt (Nat.lt_of_lt_of_le (Heap.lt_size e) leC))).trans e'
  have u5 := I5.base
  have un : Un (frs X.stack) fp H2 H' s2.heap h' :=
    ⟨fun b o e n hb hx => up b o e _ (u5.keep b o e n hb hx), fun b o e n hb hx => let ⟨sl, z⟩ := u5.slot b o e n hb hx; ⟨sl, up b o e _ z⟩, u5.free, fun b o e hx => let ⟨o', z⟩ := u5.there b o e hx; ⟨o', up b o e _ z⟩, u5.tups, u5.frzs, u5.tbls⟩
  have hok5 : HOk X.prog X.w H' h' := fun b u e => by
    have nC : ∀ c v, H' c = some v → c ≠ C := fun c v z e2 => by
      have : H' C = none := I5.free
      rw [e2, this] at z
      cases z
    refine (I5.hok b u e).stay (fun c v hcc z => (sb'.2 c ?_).trans z) (fun _ z => z) fun _ _ z => z
    rcases hcc with rfl | hcc
    · exact nC c u e
    · exact nC c _ hcc
  have fin : Inv X pins σ H' { s5 with heap := h' } := I2.call' (s' := { s5 with heap := h' }) (ch := fp) I5.os un hok5 I5.bare fun b hb => let ⟨_, g1, _, g3, g4, g5⟩ := f2 b hb; ⟨g3, g1, g4, g5⟩
  exact ⟨.ref acc, H', fin, rfl, qn⟩
theorem comp_set {scope : Scope} {N : List Str} {k : Nat} {nm : Str} {pos' : Pos} {pins : List (Addr × Obj)} {σ σ' : L2.St} {De : Ends} {acc C : Addr} {cl : List (Str × Addr)} {s2 s5 : Shared} {H2 H' : Hp} {fp : List Addr} (hN : X.N.Nodup) (hk' : X.N[k]? = some nm) (hnm : Loc X.env.scope nm) (hf : X.fn nm = true ∨ X.env.scope.names.lookup nm = some .local)
    (I2 : Inv X pins σ H2 s2) (leC : s2.heap.objs.size ≤ C) (f2 : ∀ b ∈ fp, FpOk X pins H2 b) (I5 : Inv (compXC X scope cl C N s2 H2 fp) [] σ' H' s5) (qn : De.nx (σ.set k (some (.ref acc))) H') : compPost (model X.prog X.w) X.A X.xe (some (assign (.Name nm pos') X.env)) (fun _ s' => SP X pins De .next s') (.ref acc) C (.ok .next) s5 := by
  obtain ⟨m5, hn5, _⟩ := I5.loc
  have fin : Inv X pins σ H' s5 := I2.call' (ch := fp) I5.os I5.base I5.hok I5.bare fun b hb => let ⟨_, g1, _, g3, g4, g5⟩ := f2 b hb; ⟨g3, g1, g4, g5⟩
  refine wpAny_assign_Name (store_ok2 (v := .ref acc) fin hN hk' hnm rfl (fun s6 I6 ⟨a6, sb6, ha6⟩ => ?_) hf)
  have neC : C ≠ a6 := by
    intro z
    rcases ha6 with e | e
    · exact absurd (Nat.lt_of_lt_of_le I2.lt leC) (by rw [z, e]; exact Nat.lt_irrefl _)
    · obtain ⟨v, q⟩ := I2.cell _ _ e
      exact absurd (Nat.lt_of_lt_of_le q.lt leC) (by rw [z]; exact Nat.lt_irrefl _)
  refine ⟨m5, hn5.sameBut sb6 neC, fun h' sb => ⟨_, H', ?_, qn⟩⟩
  have hCn' : H' C = none := I5.free
  refine I6.turned (t' := s6.toks) (it := C) (fun b o hb e => (sb.2 b hb).trans e) hCn' (Nat.ne_of_gt (Nat.lt_of_lt_of_le I2.lt leC)) (.inr (Nat.le_trans I2.sz leC)) (fun y c e z => ?_) (fun q hq z => ?_)
  · obtain ⟨v, q⟩ := I2.cell y c e
    exact absurd (Nat.lt_of_lt_of_le q.lt leC) (by rw [z]; exact Nat.lt_irrefl _)
  · exact absurd (Nat.lt_of_lt_of_le (Heap.lt_size (I2.pin q hq).1) leC) (by rw [z]; exact Nat.lt_irrefl _)
theorem ps_setCompC {elt tg iter : Expr} {scope : Scope} {pos pos' pos2 : Pos} {N : List Str} {n : Nat} {caps : List Nat} {wi : TI} {g : TG} {te : TE} {k : Nat} {nm : Str} (hN : X.N.Nodup) (hk' : X.N[k]? = some nm) (hnm : Loc X.env.scope nm) (hc : X.calm = true) (hi : PI X tg iter wi) (co : CapOk X scope N n caps)
    (hg : ∀ cl C s2 H2 fp, PG (compXC X scope cl C N s2 H2 fp) tg g) (he : ∀ cl C s2 H2 fp, PE (compXC X scope cl C N s2 H2 fp) elt te)
    (hs : ∀ x, foldedSetIterable iter X.env x = pure x := by intro _; rfl) (hsw : swapsWith (.ListComp elt [⟨tg, iter, [], 0⟩] scope pos) (some (.Name nm pos')) pos2.line X.env = pure true := by rfl)
    (hf : X.fn nm = true ∨ X.env.scope.names.lookup nm = some .local := by first | exact .inl rfl | exact .inr rfl | assumption) : PS X (.Assign [.Name nm pos'] (.ListComp elt [⟨tg, iter, [], 0⟩] scope pos) pos2) (tAsg (tCompC wi g te n caps) (gName k)) := by
  intro pins s σ H De I h
  rw [exec_Assign_Name_used _ _ _ _ hsw]
  refine wpAny_bind (wpAny_standAt (wpAny_bind ?_))
  rw [arm_evalThenUse_ListComp]
  refine wpAny_bind ?_
  refine thn (Q := fun _ s' => SP X pins De .next s') ?_ fun _ s' q => wpAny_pure (wpAny_pure q)
  refine comp_core (ifs := []) (tt := fun _ H Q => Q true H) (use := some (assign (.Name nm pos') X.env)) (R := fun J H1 => tFillC g te n caps J σ H1 fun v H' => De.nx (σ.set k (some v)) H') (Q := fun v H' => De.nx (σ.set k (some v)) H') hc hi co hg (fun _ _ _ _ _ => pts_nil) he hs I h (fun _ _ r => r) (fun acc C cl s2 s5 H2 H' fp σ' I2 leC f2 I5 qn => comp_set hN hk' hnm hf I2 leC f2 I5 qn)
theorem ps_setCompT {elt tg iter c : Expr} {tc : L2.TT} {scope : Scope} {pos pos' pos2 : Pos} {N : List Str} {n : Nat} {caps : List Nat} {wi : TI} {g : TG} {te : TE} {k : Nat} {nm : Str} (hN : X.N.Nodup) (hk' : X.N[k]? = some nm) (hnm : Loc X.env.scope nm) (hc : X.calm = true) (hi : PI X tg iter wi) (co : CapOk X scope N n caps)
    (hg : ∀ cl C s2 H2 fp, PG (compXC X scope cl C N s2 H2 fp) tg g) (ht : ∀ cl C s2 H2 fp, PT (compXC X scope cl C N s2 H2 fp) c tc) (he : ∀ cl C s2 H2 fp, PE (compXC X scope cl C N s2 H2 fp) elt te)
    (hs : ∀ x, foldedSetIterable iter X.env x = pure x := by intro _; rfl) (hsw : swapsWith (.ListComp elt [⟨tg, iter, [c], 0⟩] scope pos) (some (.Name nm pos')) pos2.line X.env = pure true := by rfl)
    (hf : X.fn nm = true ∨ X.env.scope.names.lookup nm = some .local := by first | exact .inl rfl | exact .inr rfl | assumption) : PS X (.Assign [.Name nm pos'] (.ListComp elt [⟨tg, iter, [c], 0⟩] scope pos) pos2) (tAsg (tCompT wi g tc te n caps) (gName k)) := by
  intro pins s σ H De I h
  rw [exec_Assign_Name_used _ _ _ _ hsw]
  refine wpAny_bind (wpAny_standAt (wpAny_bind ?_))
  rw [arm_evalThenUse_ListComp]
  refine wpAny_bind ?_
  refine thn (Q := fun _ s' => SP X pins De .next s') ?_ fun _ s' q => wpAny_pure (wpAny_pure q)
  refine comp_core (ifs := [c]) (tt := tc) (use := some (assign (.Name nm pos') X.env)) (R := fun J H1 => tFillT g tc te n caps J σ H1 fun v H' => De.nx (σ.set k (some v)) H') (Q := fun v H' => De.nx (σ.set k (some v)) H') hc hi co hg (fun cl C s2 H2 fp => pts_one (ht cl C s2 H2 fp)) he hs I h (fun _ _ r => r) (fun acc C cl s2 s5 H2 H' fp σ' I2 leC f2 I5 qn => comp_set hN hk' hnm hf I2 leC f2 I5 qn)
end
end TT
namespace TT
open PySem PySem.Spec PyProof.Rows L2
/-- the reading of a comprehension whose items are built one by one -/
theorem comp_fill {J : It} {g : TG} {te : TE} {σ : L2.St} {n0 : Nat} {caps : List Nat} {G H : Hp} {Q : VK} (n : Nat) (ds : Nat → D) (sm : Same G H) (hn : n ≤ 1000) (go : ∀ i H2, i < n → Same H H2 → J.go i H2) (stop : ∀ H2, Same H H2 → J.stop n H2)
    (turn : ∀ i x H2 H3, i < n → Same H H2 → J.yld i H2 x H3 → H3 = H2 ∧ ∀ (G2 : Hp), Ext G H G2 H2 → ∀ (R : V → Hp → Prop), (∀ (G' H' : Hp) (y : V), Ext G2 H2 G' H' → Rep G' y (ds i) → R y H') →
      g x (cap0 n0 caps σ) H2 fun σ2 H4 => (∀ (j : Nat) (v : V), (cap0 n0 caps σ)[j]? = some (some v) → σ2[j]? = some (some v)) ∧ te σ2 H4 R)
    (k : ∀ (G' H' : Hp) (l : Addr), Ext G H G' H' → Rep G' (.ref l) (.lst ((List.range n).map ds)) → Q (.ref l) H') : tFillC g te n0 caps J σ H Q := by
  have big := line_big
  intro acc hacc
  have na : G acc = none := sm.none hacc
  refine ⟨fun i m H2 ys => ∃ G2 : Hp, m = n - i ∧ i ≤ n ∧ ys.length = i ∧ Ext G H G2 H2 ∧ G2 acc = none ∧ Reps G2 ys ((List.range i).map ds), ⟨_, G, rfl, Nat.zero_le _, rfl, Ext.tmp sm hacc, na, .nil⟩, ?_⟩
  rintro i m H2 ys ⟨G2, rfl, hi, hyl, x, nA, rys⟩ hya
  by_cases hlt : i < n
  · refine .inr ⟨go i H2 hlt x.h, by omega, fun x0 H3 y => ?_⟩
    obtain ⟨rfl, t⟩ := turn i x0 H2 H3 hlt x.h y
    refine t G2 x _ fun G4 H4 y4 x4 r4 => ?_
    have hya4 := x4.h _ _ hya
    have nA4 := x4.keep hya nA
    refine ⟨hya4, n - (i + 1), by omega, G4, rfl, hlt, by rw [List.length_append, List.length_singleton, hyl], (x.trans x4).mut nA4 hacc, nA4, ?_⟩
    rw [List.range_succ, List.map_append]
    exact (rys.mono x4.g).append (.cons r4 .nil)
  · obtain rfl : i = n := by omega
    exact .inl ⟨stop H2 x.h, k _ _ _ (x.freeze nA hacc hya) (.lst upd_same (rys.mono (same_upd nA)))⟩
theorem capOk_nil {X : Cx} {scope : Scope} {N : List Str} {n : Nat} (hn : N.length = n) (kind : scope.kind = .function) (cell : ∀ y ∈ scope.names, y.2 ≠ .cell) (names : ∀ y ∈ scope.names, y.2 = .local → scope.names.lookup y.1 = some .local) (free : ∀ y ∈ scope.names, y.2 ≠ .free) : CapOk X scope N n [] where
  kind := kind
  cell := cell
  names := names
  len := hn
  free := fun y hy hf => absurd hf (free y hy)
  caps := fun i j h => by simp at h
theorem cap_none2 {j : Nat} {v : V} {σ : L2.St} (h : ([none, none] : L2.St)[j]? = some (some v)) : σ[j]? = some (some v) := by
  match j, h with
  | 0, h => cases h
  | 1, h => cases h
  | j + 2, h => cases h
end TT
namespace PySem
open Sem (wp)
section
variable {prog : Program} {w : World} {A : Around} {E : Value → Shared → Prop} {s : Shared}
theorem F.lri_no_len : typeLookup (.type "list_reverseiterator") "__len__" = pure none := by rw [typeLookup_type, builtinLookup_eq_fast]; kernel_rfl
theorem F.lri_hint : typeLookup (.type "list_reverseiterator") "__length_hint__" = pure (some (.builtin "list_reverseiterator.__length_hint__")) := by rw [typeLookup_type, builtinLookup_eq_fast]; kernel_rfl
theorem hint_rev {it l : Addr} {i : Int} {Q : Bool → Shared → Prop} (hit : s.heap.IsRevIter it l i) (h : Q false s) : wpAny (model prog w) A (Builtin.List.listLengthHint (.ref it)) Q E s := by
  unfold Builtin.List.listLengthHint
  refine wpAny_bind (wpAny_specialOf hit.typeIs F.lri_no_len ?_)
  refine wpAny_bind (wpAny_specialOf hit.typeIs F.lri_hint ?_)
  generalize hid : ("list_reverseiterator.__length_hint__" : String) = id0
  wp_delta
  rw [show splitId id0 = some ("list_reverseiterator", "__length_hint__") from by subst hid; decide +kernel]
  subst hid
  refine wpAny_bind (wpAny_isInstance (T := "list_reverseiterator") (b := true) hit.typeIs (by rw [isSubtype_type]; kernel_rfl) ?_)
  refine wpAny_ite_split (fun hab => absurd hab (by decide)) (fun _ => ?_)
  refine wpAny_ite_split (fun _ => ?_) (fun hab => absurd (by decide +kernel) hab)
  refine wpAny_ite_split (fun hab => absurd hab (by decide +kernel)) (fun _ => ?_)
  exact wpAny_pure h
theorem extend_rev {R : Result → Shared → Prop} {it l : Addr} {items : Array Value} (hh : A.handled = none) (hit : s.heap.IsRevIter it l ((items.size : Int) - 1)) (hl : s.heap.IsList l items) (hsz : items.size ≤ sizeLine)
    (S : Addr) (res : Value) (c₀ : Nat) (hS : s.heap.get? S = some { cls := .type "list", data := .seq #[] c₀ }) (hSl : S ≠ l)
    (hR : ∀ h' tk acc' c', (∀ b o, b ≠ S → b ≠ it → s.heap.get? b = some o → h'.get? b = some o) → h'.get? S = some { cls := .type "list", dict := none, data := .seq acc' c', slots := #[] } →
      ItemsOf (fun i v => items[items.size - 1 - i]? = some v) acc' items.size → R (.ok (.ret res)) { s with heap := h', toks := tk }) :
    wpAny (model prog w) A.in1 (Builtin.List.listExtendWith (.ref S) (.ref it) res)
      (fun fin s' => match fin with | .done f => R (.ok f) s' | .again c' => c'.quiet = true ∧ codeAny (model prog w) A c' R s') (fun e s' => R (.error e) s') s := by
  obtain ⟨oi, hoi, hci, hdi⟩ := id hit
  have hSi : S ≠ it := fun e => by
    rw [e, hoi] at hS
    injection hS with e1
    rw [e1] at hci
    exact absurd (show Value.type "list" = Value.type "list_reverseiterator" from hci) (by decide)
  have hli : l ≠ it := fun e => by
    obtain ⟨o2, h2, c2, _⟩ := hl
    rw [e, hoi] at h2
    injection h2 with e1
    rw [e1, c2] at hci
    exact absurd hci (by decide)
  have hSf : S ∉ [it, l] := fun hm => by
    rcases List.mem_cons.mp hm with e | e
    · exact hSi e
    · exact hSl (List.mem_singleton.mp e)
  unfold Builtin.List.listExtendWith
  refine wpAny_bind (wpAny_typeOf (T := "list_reverseiterator") hit.typeIs ?_)
  have h1 : Builtin.List.listSameRef (.ref S) (.ref it) = false := by simp [Builtin.List.listSameRef, hSi]
  have h2 : (Value.type "list_reverseiterator" == Value.type "list") = false := by decide
  have h3 : (Value.type "list_reverseiterator" == Value.type "tuple") = false := by decide
  simp only [h1, h2, h3, Bool.or_false, Bool.false_eq_true, if_false]
  refine wpAny_bind (wpAny_pyIter_revIter hit ?_)
  refine wpAny_bind (wpAny_holding (hint_rev hit ?_))
  refine wpAny_ite_split (fun hab => absurd hab (by decide +kernel)) (fun _ => ?_)
  have hst : items.size - items.size ≤ items.size := by omega
  refine wpAny_pure ⟨plainId_quiet F.plain_extend_loop _, codeAny_extend_loopS ((Walks.listRev (prog := prog) (w := w) (A := A.in1) hh it l hli items).toS) hsz _ hSf _ items.size 0 _ _ _ rfl (Nat.zero_le _) ⟨Nat.zero_le _, by simpa using hit, hl⟩ hS (ItemsOf.nil _) fun s' acc' c' hm hS' hacc => ?_⟩
  rw [Moved.eq_with hm]
  refine hR s'.heap s'.toks acc' c' (fun b ob hb hb2 e => hm.heap b ob (fun hmem => ?_) e) hS' hacc
  rcases List.mem_cons.mp hmem with e' | hmem
  · exact hb e'
  · exact hb2 (List.mem_singleton.mp hmem)
theorem list_init_rev {R : Result → Shared → Prop} {it l : Addr} {items : Array Value} (hh : A.handled = none) (hit : s.heap.IsRevIter it l ((items.size : Int) - 1)) (hl : s.heap.IsList l items) (hsz : items.size ≤ sizeLine)
    (S : Addr) (hS : s.heap.get? S = some { cls := .type "list", data := .seq #[] }) (hSl : S ≠ l)
    (hR : ∀ h' tk acc' c', (∀ b o, b ≠ S → b ≠ it → s.heap.get? b = some o → h'.get? b = some o) → h'.get? S = some { cls := .type "list", dict := none, data := .seq acc' c', slots := #[] } →
      ItemsOf (fun i v => items[items.size - 1 - i]? = some v) acc' items.size → R (.ok (.ret .none)) { s with heap := h', toks := tk }) :
    wpAny (model prog w) A.in1 (Builtin.«list.__init__» ⟨[.ref S, .ref it], []⟩)
      (fun fin s' => match fin with | .done f => R (.ok f) s' | .again c' => c'.quiet = true ∧ codeAny (model prog w) A c' R s') (fun e s' => R (.error e) s') s := by
  show wpAny _ _ (do let old ← Builtin.List.listItems (.ref S); Builtin.List.listUpdate (.ref S) (fun _ => #[]); letGo old.toList.reverse; Builtin.List.listExtendWith (.ref S) (.ref it) .none) _ _ s
  have hSi : S ≠ it := fun e => by
    obtain ⟨oi, hoi, hci, hdi⟩ := hit
    rw [e, hoi] at hS
    injection hS with e1
    rw [e1] at hci
    exact absurd (show Value.type "list" = Value.type "list_reverseiterator" from hci) (by decide)
  refine wpAny_bind ?_
  unfold Builtin.List.listItems
  refine wpAny_bind (wpAny_seqItems hS rfl (wpAny_pure ?_))
  show wpAny _ _ (updateSeq S (fun _ => #[]) >>= fun _ => letGo (#[] : Array Value).toList.reverse >>= fun _ => Builtin.List.listExtendWith (.ref S) (.ref it) .none) _ _ s
  refine wpAny_bind (wpAny_updateSeq hS rfl ?_)
  have hS₂ := Heap.get?_update_self (Obj.mapSeq (fun _ => (#[] : Array Value))) hS rfl
  have oth : ∀ b o, b ≠ S → s.heap.get? b = some o → (s.heap.update S (Obj.mapSeq (fun _ => (#[] : Array Value)))).get? b = some o :=
    fun b o hb e => (Heap.get?_update_other _ _ (Ne.symm hb)).trans e
  refine wpAny_bind (wpAny_letGo ?_)
  refine extend_rev hh (hit.at fun o e => oth it o (Ne.symm hSi) e) (hl.at fun o e => oth l o (Ne.symm hSl) e) hsz S .none _ hS₂ hSl fun h' tk acc' c' hk hS' hacc => ?_
  exact hR h' tk acc' c' (fun b o hb hb2 e => hk b o hb hb2 (oth b o hb e)) hS' hacc
theorem call_list_rev {Q : Value → Shared → Prop} {it l : Addr} {items : Array Value} (hh : A.handled = none) (hit : s.heap.IsRevIter it l ((items.size : Int) - 1)) (hl : s.heap.IsList l items) (hsz : items.size ≤ sizeLine)
    (hQ : ∀ h' tk acc' c', (∀ b o, b ≠ it → s.heap.get? b = some o → h'.get? b = some o) →
      h'.get? s.heap.objs.size = some { cls := .type "list", dict := none, data := .seq acc' c', slots := #[] } → ItemsOf (fun i v => items[items.size - 1 - i]? = some v) acc' items.size → Q (.ref s.heap.objs.size) { s with heap := h', toks := tk }) :
    wpAny (model prog w) A (call (.type "list") [.ref it]) Q E s := by
  refine callType_codes (Q₁ := fun obj s₁ => obj = .ref s.heap.objs.size ∧ s₁ = { s with heap := s.heap.push { cls := .type "list", data := .seq #[] } }) F.called_list (F.typeCall_list_1 _) F.entry_list_init
    (code_list_new _ ⟨rfl, rfl⟩) fun obj s₁ h₁ => ?_
  obtain ⟨rfl, rfl⟩ := h₁
  have hS : (s.heap.push { cls := .type "list", data := .seq #[] }).get? s.heap.objs.size = some { cls := .type "list", data := .seq #[] } := Heap.get?_push_size _ rfl
  have hSl : s.heap.objs.size ≠ l := fun e => by
    obtain ⟨o2, h2, _⟩ := hl
    exact absurd (Heap.lt_size h2) (by rw [← e]; exact Nat.lt_irrefl _)
  refine ⟨⟨_, hS, rfl⟩, F.args_list_init_2 _ _, list_init_rev (A := A.in1) hh (hit.at fun o e => Heap.get?_push_of_some _ e) (hl.at fun o e => Heap.get?_push_of_some _ e) hsz _ hS hSl fun h' tk acc' c' hk hS' hacc => ?_⟩
  exact ⟨rfl, hQ h' tk acc' c' (fun b o hb e => hk b o (Nat.ne_of_lt (Heap.lt_size e)) hb (Heap.get?_push_of_some _ e)) hS' hacc⟩
end
end PySem
namespace TT
open PySem PySem.Spec PyProof.Rows L2
theorem vals_app {xs ys : List V} {us ws : List Value} (a : Vals xs us) (b : Vals ys ws) : Vals (xs ++ ys) (us ++ ws) := by
  induction a with
  | nil => exact b
  | cons r _ ih => exact .cons r ih
theorem vals_rev {xs : List V} {us : List Value} (a : Vals xs us) : Vals xs.reverse us.reverse := by
  induction a with
  | nil => exact .nil
  | cons r _ ih =>
    rw [List.reverse_cons, List.reverse_cons]
    exact vals_app ih (.cons r .nil)
theorem items_rev {its : List Value} {acc : Array Value} (h : ItemsOf (fun i v => its.toArray[its.toArray.size - 1 - i]? = some v) acc its.toArray.size) : acc.toList = its.reverse := by
  obtain ⟨h1, h2⟩ := h
  have h1 : acc.size = its.length := by rw [h1]; exact List.size_toArray ..
  refine List.ext_getElem? fun i => ?_
  by_cases hi : i < its.length
  · have hlt : i < acc.size := by omega
    have e := h2 i acc[i] (Array.getElem?_eq_getElem hlt)
    rw [List.getElem?_reverse hi, Array.getElem?_toList, Array.getElem?_eq_getElem hlt]
    simpa using e.symm
  · rw [List.getElem?_eq_none (by rw [Array.length_toList]; omega), List.getElem?_eq_none (by rw [List.length_reverse]; omega)]
section
variable {X : Cx}
def tListRev (K : PySem.W.Frag) (ta : TA) : TE := fun σ H Q => ta σ H fun vs H1 => ∃ a xs, vs = [.ref a] ∧ SqL K H1 a xs ∧ ∀ l, H1 l = none → Q (.ref l) (upd H1 l (.lst xs.reverse))
theorem pe_listRev {e : Expr} {ta : TA} {p q pos pos2 : Pos} (hg : Gl X "reversed") (hm : X.mg "reversed" = none) (hg2 : Gl X "list") (hm2 : X.mg "list" = none) (hd : X.A.handled = none) (ha : PA X [e] ta) (hs : starEach [e] X.env = [(false, eval e X.env)] := by rfl)
    (hs2 : starEach [.Call (.Name "reversed" p) [e] [] pos] X.env = [(false, eval (.Call (.Name "reversed" p) [e] [] pos) X.env)] := by rfl) :
    PE X (.Call (.Name "list" q) [.Call (.Name "reversed" p) [e] [] pos] [] pos2) (tListRev X.K ta) := by
  intro pins s σ H Q I h
  refine wpAny_Call_Name_kw (ld_blt I hg2 hm2 bt_list ?_)
  refine PyProof.Rows.callWith_type1 ?_ hs2 rfl
  rw [hs2]
  show wpAny _ _ (spliced ((false, eval (.Call (.Name "reversed" p) [e] [] pos) X.env) :: [])) _ _ s
  refine Calls.spliced_cons ?_
  refine Call_ (ld_blt I hg hm bt_reversed (PyProof.Rows.callWith_type1 (thn (ha pos pins s σ H _ I h) fun us s1 ⟨vs, H1, I1, r1, q1⟩ => ?_) hs rfl))
  obtain ⟨a, xs, e, hq, q⟩ := q1
  subst e
  cases r1 with
  | cons r rr =>
    cases rr
    cases r
    obtain ⟨its, rv, pl, hz⟩ := I1.list hq
    have hl := rv.length
    refine call_reversed_list pl.isList (Calls.spliced_nil ?_)
    have hit : (s1.heap.push (revObj a ((its.toArray.size : Int) - 1))).IsRevIter s1.heap.objs.size a ((its.toArray.size : Int) - 1) := ⟨_, Heap.get?_push_size _ rfl, rfl, rfl⟩
    refine call_list_rev hd hit (pl.isList.at fun o e => Heap.get?_push_of_some _ e) (by rw [List.size_toArray]; omega) fun h' tk acc' c' kp e hacc => ?_
    have el := items_rev hacc
    have rr := vals_rev rv
    rw [← el] at rr
    have kp1 : ∀ b u, s1.heap.get? b = some u → h'.get? b = some u := fun b u eb => kp b u (Nat.ne_of_lt (Heap.lt_size eb)) (Heap.get?_push_of_some _ eb)
    have hfr : H1 (s1.heap.push (revObj a ((its.toArray.size : Int) - 1))).objs.size = none := I1.hok.fresh (by rw [Heap.size_push]; omega)
    refine ⟨.ref (s1.heap.push (revObj a ((its.toArray.size : Int) - 1))).objs.size, _, I1.laid (t' := tk) (o := .lst xs.reverse) kp1 (by rw [Heap.size_push]; omega) (show ObjOk X.prog X.w _ h' _ (.lst xs.reverse) from ⟨by rw [List.length_reverse]; exact hz, acc'.toList, c', rr, by simpa using e⟩), rfl, q _ hfr⟩
end
end TT
namespace TX
open PySem PySem.Builtin PySem.Builtin.Str PySem.StrLaws TT

/-! ### replace as a function of the signs -/
theorem at_iff {x y : Str} {i : Nat} (hw : 1 ≤ y.length) : At x y x.length i ↔ y.cps.toList <+: x.cps.toList.drop i := by
  have hl : x.length = x.cps.toList.length := by simp [Str.length]
  have hy : y.length = y.cps.toList.length := by simp [Str.length]
  unfold At
  rw [subAt_eq, beq_iff_eq, List.prefix_iff_eq_take, hl, hy]
  constructor
  · rintro ⟨_, h⟩
    exact h.symm
  · intro h
    refine ⟨?_, h.symm⟩
    have := congrArg List.length h
    rw [List.length_take, List.length_drop] at this
    omega
section
variable {y z : List Nat} {f : List Nat → List Nat}
structure RepF (y z : List Nat) (f : List Nat → List Nat) : Prop where
  nil : f [] = []
  hit : ∀ r, f (y ++ r) = z ++ f r
  miss : ∀ c r, ¬ y <+: c :: r → f (c :: r) = c :: f r
theorem RepF.walk (F : RepF y z f) : ∀ (n : Nat) (l : List Nat), (∀ k, k < n → ¬ y <+: l.drop k) → f l = l.take n ++ f (l.drop n)
  | 0, l, _ => by simp
  | n + 1, [], _ => by simp [F.nil]
  | n + 1, c :: r, h => by
    have h0 := h 0 (Nat.succ_pos n)
    rw [List.drop_zero] at h0
    have ih := F.walk n r fun k hk => by
      have := h (k + 1) (by omega)
      rwa [List.drop_succ_cons] at this
    rw [F.miss c r h0, List.take_succ_cons, List.drop_succ_cons, List.cons_append, ← ih]
end
theorem join_two (z p : Str) (q : List Str) (hq : q ≠ []) : (Str.join z (p :: q)).cps.toList = p.cps.toList ++ (z.cps.toList ++ (Str.join z q).cps.toList) := by
  cases q with
  | nil => exact absurd rfl hq
  | cons a r =>
    show ((p ++ z) ++ Str.join z (a :: r)).cps.toList = _
    rw [Str.cps_append, Str.cps_append, Array.toList_append, Array.toList_append, List.append_assoc]
theorem rep_chain {x y z : Str} {f : List Nat → List Nat} (hw : 1 ≤ y.length) (F : RepF y.cps.toList z.cps.toList f) : ∀ (cuts : List Nat) (a e : Nat), ChainG x y x.length a cuts e → (∀ k, e ≤ k → ¬ At x y x.length k) →
    (Str.join z (partsFrom x y.length a cuts)).cps.toList = f (x.cps.toList.drop a)
  | [], a, e, h, hn => by
    have h : e = a := h
    subst h
    show (strSub x e x.length).cps.toList = _
    have hl : x.length = x.cps.toList.length := by simp [Str.length]
    rw [strSub_toList, List.take_of_length_le (by rw [List.length_drop, hl]; omega)]
    have w := F.walk ((x.cps.toList.drop e).length) (x.cps.toList.drop e) fun k _ => by
      rw [List.drop_drop, ← at_iff hw]
      exact hn _ (by omega)
    rw [w, List.take_length, List.drop_length, F.nil, List.append_nil]
  | c :: r, a, e, h, hn => by
    obtain ⟨h1, h2, h3, h4⟩ := h
    have ih := rep_chain hw F r (c + y.length) e h4 hn
    rw [partsFrom, join_two _ _ _ (by obtain ⟨p, q, e⟩ := partsFrom_ne x y.length (c + y.length) r; rw [e]; exact List.cons_ne_nil _ _), ih, strSub_toList]
    have w := F.walk (c - a) (x.cps.toList.drop a) fun k hk => by
      rw [List.drop_drop, ← at_iff hw]
      exact h3 _ (by omega) (by omega)
    rw [w, List.drop_drop, show a + (c - a) = c by omega]
    congr 1
    obtain ⟨t, ht⟩ := (at_iff hw).mp h2
    have e2 : x.cps.toList.drop (c + y.length) = t := by
      rw [← List.drop_drop, ← ht, show y.length = y.cps.toList.length by simp [Str.length], List.drop_left]
    rw [← ht, F.hit, e2]
theorem replace_eq {x y z : Str} {f : List Nat → List Nat} (F : RepF y.cps.toList z.cps.toList f) (hw : 1 ≤ y.length) : (Txt.replace x y z).cps.toList = f x.cps.toList := by
  obtain ⟨e, hc, hn⟩ := occ_tight x y hw
  unfold Txt.replace
  have hy0 : (y.length == 0) = false := by rw [beq_eq_false_iff_ne]; omega
  rw [hy0, Bool.false_and, Bool.or_false]
  have key := rep_chain hw F _ 0 e hc hn
  rw [List.drop_zero] at key
  split
  · rename_i h
    rw [List.isEmpty_iff] at h
    rw [h] at key
    rw [← key]
    show _ = (strSub x 0 x.length).cps.toList
    rw [strSub_toList, List.drop_zero, List.take_of_length_le (by simp [Str.length])]
  · rw [glued_eq_join, partsBetween_eq]
    exact key
end TX
namespace TX
open PySem PySem.Builtin PySem.Builtin.Str PySem.StrLaws TT

/-! ### the line of a row -/
mutual
def txt : Tr → List Nat
  | .node m ks => m.cps.toList ++ (if ks.isEmpty = true then [] else 40 :: (txts false ks ++ [41]))
/-- the trees of a row, ahead of the first a blank where b says so -/
def txts : Bool → List Tr → List Nat
  | _, [] => []
  | b, t :: ts => (if b = true then [32] else []) ++ (txt t ++ txts true ts)
end
def low (c : Nat) : Bool := decide (97 ≤ c) && decide (c ≤ 122)
def Wrd (m : List Nat) : Prop := m ≠ [] ∧ ∀ c ∈ m, low c = true
mutual
def good : Tr → Prop
  | .node m ks => Wrd m.cps.toList ∧ goods ks
def goods : List Tr → Prop
  | [] => True
  | t :: ts => good t ∧ goods ts
end
abbrev leaf (w : List Nat) : Tr := .node ⟨w.toArray⟩ []
theorem txt_leaf (w : List Nat) : txt (leaf w) = w := by simp [txt]
theorem goods_append : ∀ {a b : List Tr}, goods (a ++ b) ↔ goods a ∧ goods b
  | [], b => by simp [goods]
  | t :: a, b => by simp [goods, goods_append (a := a) (b := b), and_assoc]
theorem goods_one {t : Tr} : goods [t] ↔ good t := by simp [goods]
theorem good_leaf {w : List Nat} (h : Wrd w) : good (leaf w) := by
  simp only [good, goods, and_true]
  exact h
theorem txts_append : ∀ (b : Bool) (x y : List Tr), txts b (x ++ y) = txts b x ++ txts (b || !x.isEmpty) y
  | b, [], y => by simp [txts]
  | b, t :: x, y => by
    rw [List.cons_append, txts, txts_append true x y, txts]
    simp
theorem txt_node (m : Str) {ks : List Tr} (h : ks ≠ []) : txt (.node m ks) = m.cps.toList ++ 40 :: (txts false ks ++ [41]) := by
  rw [txt, if_neg (by rw [List.isEmpty_iff]; exact h)]
mutual
theorem txt_pos : ∀ t : Tr, good t → t.knots ≤ (txt t).length
  | .node m ks, h => by
    rw [good] at h
    have h1 := txts_pos false ks h.2
    have h2 : 1 ≤ m.cps.toList.length := List.length_pos_iff.mpr h.1.1
    rw [txt, Tr.knots]
    split
    · rename_i hk
      rw [List.isEmpty_iff] at hk
      subst hk
      simp only [knotsOf, List.append_nil]
      omega
    · simp only [List.length_append, List.length_cons, List.length_nil]
      omega
theorem txts_pos : ∀ (b : Bool) (ts : List Tr), goods ts → knotsOf ts ≤ (txts b ts).length
  | _, [], _ => Nat.zero_le _
  | b, t :: ts, h => by
    rw [goods] at h
    have h1 := txt_pos t h.1
    have h2 := txts_pos true ts h.2
    rw [txts, knotsOf]
    simp only [List.length_append]
    omega
end
/-- a sign of a line -/
def sgn (c : Nat) : Bool := low c || c == 40 || c == 41 || c == 32
mutual
theorem txt_sgn : ∀ t : Tr, good t → ∀ c ∈ txt t, sgn c = true
  | .node m ks, h, c, hc => by
    rw [good] at h
    rw [txt, List.mem_append] at hc
    rcases hc with hc | hc
    · simp [sgn, h.1.2 c hc]
    · split at hc
      · cases hc
      · rcases List.mem_cons.mp hc with rfl | hc
        · rfl
        · rcases List.mem_append.mp hc with hc | hc
          · exact txts_sgn false ks h.2 c hc
          · rw [List.mem_singleton.mp hc]; rfl
theorem txts_sgn : ∀ (b : Bool) (ts : List Tr), goods ts → ∀ c ∈ txts b ts, sgn c = true
  | _, [], _, c, hc => by rw [txts] at hc; cases hc
  | b, t :: ts, h, c, hc => by
    rw [goods] at h
    rw [txts] at hc
    rcases List.mem_append.mp hc with hc | hc
    · cases b
      · cases hc
      · rw [if_pos rfl] at hc; rw [List.mem_singleton.mp hc]; rfl
    · rcases List.mem_append.mp hc with hc | hc
      · exact txt_sgn t h.1 c hc
      · exact txts_sgn true ts h.2 c hc
end

/-! ### what read asks of a line -/
def okL (p c : Nat) : Bool := ((p == 40 || p == 32) && c == 97) || (p == 97 && (c == 97 || c == 40 || c == 41 || c == 32)) || (p == 41 && (c == 41 || c == 32))
def kind (c : Nat) : Nat := if low c = true then 97 else c
def nbr : Nat → List Nat → Bool
  | _, [] => true
  | p, c :: r => okL p (kind c) && nbr (kind c) r
def dep (d : Int) (c : Nat) : Int := if c = 40 then d + 1 else if c = 41 then d - 1 else d
def brk : Int → List Nat → Bool
  | d, [] => decide (d = 0)
  | d, c :: r => decide (0 ≤ dep d c) && brk (dep d c) r
def chk : Nat → Int → List Nat → Bool
  | p, d, [] => okL p 41 && decide (d = 0)
  | p, d, c :: r => okL p (kind c) && (decide (0 ≤ dep d c) && chk (kind c) (dep d c) r)
theorem chk_eq : ∀ (r : List Nat) (p : Nat) (d : Int), chk p d r = (nbr p (r ++ [41]) && brk d r)
  | [], p, d => by simp [chk, nbr, brk, kind, low]
  | c :: r, p, d => by
    rw [chk, chk_eq r, List.cons_append, nbr, brk]
    cases okL p (kind c) <;> cases decide (0 ≤ dep d c) <;> simp
theorem kind_low {c : Nat} (h : low c = true) : kind c = 97 := by rw [kind, if_pos h]
theorem kind_not {c : Nat} (h : ¬ low c = true) : kind c = c := by rw [kind, if_neg h]
theorem dep_low {c : Nat} (d : Int) (h : low c = true) : dep d c = d := by
  simp only [low, Bool.and_eq_true, decide_eq_true_eq] at h
  rw [dep, if_neg (by omega), if_neg (by omega)]

/-! ### the words of a line, and the levels that they build -/
def flush (w : List Nat) : List Str := if w = [] then [] else [⟨w.toArray⟩]
def spl : List Nat → List Nat → List Str
  | w, [] => flush w
  | w, c :: r => if c = 40 then flush w ++ (⟨#[40]⟩ :: spl [] r) else if c = 41 then flush w ++ (⟨#[41]⟩ :: spl [] r) else if c = 32 then flush w ++ spl [] r else spl (w ++ [c]) r
def lvStep (lv : List (List Tr)) (w : Str) : Option (List (List Tr)) :=
  if w = ⟨#[40]⟩ then some ([] :: lv)
  else if w = ⟨#[41]⟩ then (match lv with
    | ts :: row :: fs => (match row.getLast? with
      | some t => some ((row.dropLast ++ [.node t.mark ts]) :: fs)
      | none => none)
    | _ => none)
  else (match lv with
    | row :: fs => some ((row ++ [.node w []]) :: fs)
    | [] => none)
def lvRun : List (List Tr) → List Str → Option (List (List Tr))
  | lv, [] => some lv
  | lv, w :: ws => (lvStep lv w).bind fun lv' => lvRun lv' ws
theorem run_open (lv : List (List Tr)) (ws : List Str) : lvRun lv (⟨#[40]⟩ :: ws) = lvRun ([] :: lv) ws := by
  rw [lvRun, lvStep.eq_def, if_pos rfl]; rfl
theorem run_close (ts r0 : List Tr) (t : Tr) (fs : List (List Tr)) (ws : List Str) : lvRun (ts :: (r0 ++ [t]) :: fs) (⟨#[41]⟩ :: ws) = lvRun ((r0 ++ [.node t.mark ts]) :: fs) ws := by
  rw [lvRun, lvStep.eq_def, if_neg (by decide), if_pos rfl]
  simp
theorem run_word {w : List Nat} (h : Wrd w) (row : List Tr) (fs : List (List Tr)) (ws : List Str) : lvRun (row :: fs) (⟨w.toArray⟩ :: ws) = lvRun ((row ++ [leaf w]) :: fs) ws := by
  obtain ⟨hn, hl⟩ := h
  have key : ∀ c : Nat, low c = false → (⟨w.toArray⟩ : Str) ≠ ⟨#[c]⟩ := by
    intro c hc e
    injection e with e
    have e2 : w = [c] := by simpa using congrArg Array.toList e
    subst e2
    have := hl c List.mem_cons_self
    rw [hc] at this
    cases this
  rw [lvRun, lvStep.eq_def, if_neg (key 40 rfl), if_neg (key 41 rfl)]
  rfl
/-- the frames below the top: each ends in the knot whose bracket stands open -/
def Frs (fs : List (List Tr)) : Prop := ∀ f ∈ fs, ∃ r0 m, f = r0 ++ [leaf m] ∧ goods r0 ∧ Wrd m
def preT : List (List Tr) → List Nat
  | [] => []
  | f :: fs => preT fs ++ (txts false f ++ [40])
def blank (cur : List Tr) : List Nat := if cur = [] then [] else [32]
theorem txts_snoc (cur : List Tr) (t : Tr) : txts false (cur ++ [t]) = txts false cur ++ (blank cur ++ txt t) := by
  rw [txts_append]
  cases cur <;> simp [txts, blank]
/-- what comes of a line -/
def Made (x : List Nat) (lv : List (List Tr)) (ws : List Str) : Prop := ∃ row, row ≠ [] ∧ goods row ∧ x = txts false row ∧ lvRun lv ws = some [row]
theorem Made.of {x x' : List Nat} {lv lv' : List (List Tr)} {ws ws' : List Str} (h : Made x lv ws) (hx : x' = x) (hr : lvRun lv' ws' = lvRun lv ws) : Made x' lv' ws' := by
  obtain ⟨row, a, b, c, d⟩ := h
  exact ⟨row, a, b, hx.trans c, hr.trans d⟩
theorem spl_low {c : Nat} (hl : low c = true) (w r : List Nat) : spl w (c :: r) = spl (w ++ [c]) r := by
  simp only [low, Bool.and_eq_true, decide_eq_true_eq] at hl
  rw [spl, if_neg (by omega), if_neg (by omega), if_neg (by omega)]
theorem read_made : ∀ (r : List Nat) (fs : List (List Tr)) (cur : List Tr), Frs fs → goods cur →
    (∀ p, p = 40 ∨ p = 32 → chk p fs.length r = true → Made (preT fs ++ (txts false cur ++ (blank cur ++ r))) (cur :: fs) (spl [] r)) ∧
    (∀ w, Wrd w → chk 97 fs.length r = true → Made (preT fs ++ (txts false (cur ++ [leaf w]) ++ r)) (cur :: fs) (spl w r)) ∧
    (cur ≠ [] → chk 41 fs.length r = true → Made (preT fs ++ (txts false cur ++ r)) (cur :: fs) (spl [] r))
  | [], fs, cur, hf, hc => by
    refine ⟨fun p hp h => ?_, fun w hw h => ?_, fun h0 h => ?_⟩
    · rcases hp with rfl | rfl <;> simp [chk, okL] at h
    · have hz : fs = [] := by
        simp [chk] at h
        exact h.2
      subst hz
      refine ⟨cur ++ [leaf w], by simp, goods_append.mpr ⟨hc, goods_one.mpr (good_leaf hw)⟩, by simp [preT], ?_⟩
      rw [spl, flush, if_neg hw.1, run_word hw]; rfl
    · have hz : fs = [] := by
        simp [chk] at h
        exact h.2
      subst hz
      exact ⟨cur, h0, hc, by simp [preT], rfl⟩
  | c :: r, fs, cur, hf, hc => by
    -- a bracket closes over the trees ts
    have close : ∀ ts : List Tr, ts ≠ [] → goods ts → c = 41 → 0 ≤ dep fs.length c → chk 41 (dep fs.length c) r = true →
        Made (preT fs ++ (txts false ts ++ 41 :: r)) (ts :: fs) (⟨#[41]⟩ :: spl [] r) := by
      intro ts h0 hg hc41 hd h
      subst hc41
      cases fs with
      | nil => simp [dep] at hd
      | cons f fs =>
        obtain ⟨r0, m, rfl, hr0, hm⟩ := hf f List.mem_cons_self
        have hd2 : dep ((r0 ++ [leaf m]) :: fs).length 41 = fs.length := by simp [dep]
        rw [hd2] at h
        have ih := (read_made r fs (r0 ++ [.node ⟨m.toArray⟩ ts]) (fun f h => hf f (List.mem_cons_of_mem _ h)) (goods_append.mpr ⟨hr0, goods_one.mpr (by rw [good]; exact ⟨hm, hg⟩)⟩)).2.2 (by simp) h
        refine ih.of ?_ (run_close _ _ _ _ _)
        rw [preT, txts_snoc, txts_snoc, txt_leaf, txt_node _ h0]
        simp
    have blnk : ∀ ts : List Tr, ts ≠ [] → goods ts → c = 32 → chk c (dep fs.length c) r = true → Made (preT fs ++ (txts false ts ++ c :: r)) (ts :: fs) (spl [] r) := by
      intro ts h0 hg hc32 h
      subst hc32
      have ih := (read_made r fs ts hf hg).1 32 (.inr rfl) h
      refine ih.of ?_ rfl
      rw [blank, if_neg h0]
      simp
    refine ⟨fun p hp h => ?_, fun w hw h => ?_, fun h0 h => ?_⟩
    · rw [chk, Bool.and_eq_true, Bool.and_eq_true] at h
      obtain ⟨h1, h2, h3⟩ := h
      have hl : low c = true := by
        by_cases hl : low c = true
        · exact hl
        · rw [kind_not hl] at h1
          have : c = 97 := by rcases hp with rfl | rfl <;> simpa [okL] using h1
          subst this
          exact absurd rfl hl
      rw [kind_low hl, dep_low _ hl] at h3
      have hw : Wrd [c] := ⟨by simp, fun d hd => by rw [List.mem_singleton.mp hd]; exact hl⟩
      have ih := (read_made r fs cur hf hc).2.1 [c] hw h3
      refine ih.of ?_ ?_
      · rw [txts_snoc, txt_leaf]
        simp
      · rw [spl_low hl]; rfl
    · rw [chk, Bool.and_eq_true, Bool.and_eq_true] at h
      obtain ⟨h1, h2, h3⟩ := h
      by_cases hl : low c = true
      · rw [kind_low hl, dep_low _ hl] at h3
        have hw' : Wrd (w ++ [c]) := ⟨by simp, fun d hd => by
          rcases List.mem_append.mp hd with hd | hd
          · exact hw.2 d hd
          · rw [List.mem_singleton.mp hd]; exact hl⟩
        have ih := (read_made r fs cur hf hc).2.1 (w ++ [c]) hw' h3
        refine ih.of ?_ ?_
        · rw [txts_snoc, txts_snoc, txt_leaf, txt_leaf]
          simp
        · rw [spl_low hl]
      · rw [kind_not hl] at h1 h3
        have hfl : flush w = [⟨w.toArray⟩] := by rw [flush, if_neg hw.1]
        have hg : goods (cur ++ [leaf w]) := goods_append.mpr ⟨hc, goods_one.mpr (good_leaf hw)⟩
        have h0 : cur ++ [leaf w] ≠ [] := by simp
        have h4 : c = 97 ∨ c = 40 ∨ c = 41 ∨ c = 32 := by simpa [okL, or_assoc] using h1
        rcases h4 with rfl | rfl | rfl | rfl
        · exact absurd rfl hl
        · have ih := (read_made r ((cur ++ [leaf w]) :: fs) [] (fun f h => by
            rcases List.mem_cons.mp h with rfl | h
            · exact ⟨cur, w, rfl, hc, hw⟩
            · exact hf f h) trivial).1 40 (.inl rfl) (by simpa [dep] using h3)
          refine ih.of ?_ ?_
          · simp [preT, blank, txts]
          · rw [spl, if_pos rfl, hfl, List.singleton_append, run_word hw, run_open]
        · refine (close _ h0 hg rfl (by simpa using h2) h3).of rfl ?_
          rw [spl, if_neg (by decide), if_pos rfl, hfl, List.singleton_append, run_word hw]
        · refine (blnk _ h0 hg rfl h3).of rfl ?_
          rw [spl, if_neg (by decide), if_neg (by decide), if_pos rfl, hfl, List.singleton_append, run_word hw]
    · rw [chk, Bool.and_eq_true, Bool.and_eq_true] at h
      obtain ⟨h1, h2, h3⟩ := h
      have hl : ¬ low c = true := by
        intro hl
        rw [kind_low hl] at h1
        cases h1
      rw [kind_not hl] at h1 h3
      have h4 : c = 41 ∨ c = 32 := by simpa [okL] using h1
      rcases h4 with rfl | rfl
      · refine (close _ h0 hc rfl (by simpa using h2) h3).of rfl ?_
        rw [spl, if_neg (by decide), if_pos rfl, flush, if_pos rfl, List.nil_append]
      · refine (blnk _ h0 hc rfl h3).of rfl ?_
        rw [spl, if_neg (by decide), if_neg (by decide), if_pos rfl, flush, if_pos rfl, List.nil_append]
/-- a line that fits is the line of a row, which its words build -/
theorem read_row {l : List Nat} (h : chk 40 0 l = true) : Made l [[]] (spl [] l) := by
  have := (read_made l [] [] (fun _ h => nomatch h) trivial).1 40 (.inl rfl) h
  simpa [preT, txts, blank] using this
end TX
namespace TX
open PySem PySem.Builtin PySem.Builtin.Str PySem.StrLaws TT

/-! ### the line as marks: W for a run of letters -/
def wcomp : Bool → List Nat → List Nat
  | _, [] => []
  | w, c :: r => if low c = true then (if w = true then wcomp true r else 87 :: wcomp true r) else if c = 40 ∨ c = 41 ∨ c = 32 then c :: wcomp false r else 33 :: wcomp false r
def wst (m : List Nat) (c : Nat) : List Nat :=
  if low c = true then (if m.getLast? = some 87 then m else m ++ [87]) else if c = 40 ∨ c = 41 ∨ c = 32 then m ++ [c] else m ++ [33]
theorem wst_run : ∀ (l m : List Nat), l.foldl wst m = m ++ wcomp (decide (m.getLast? = some 87)) l
  | [], m => by simp [wcomp]
  | c :: r, m => by
    rw [List.foldl_cons, wst_run r, wcomp, wst]
    by_cases hl : low c = true
    · rw [if_pos hl, if_pos hl]
      by_cases hm : m.getLast? = some 87
      · simp [hm]
      · simp [hm]
    · rw [if_neg hl, if_neg hl]
      by_cases hc : c = 40 ∨ c = 41 ∨ c = 32
      · rw [if_pos hc, if_pos hc]
        have : c ≠ 87 := by omega
        simp [this]
      · rw [if_neg hc, if_neg hc]
        simp
theorem wcomp_len : ∀ (w : Bool) (l : List Nat), (wcomp w l).length ≤ l.length
  | _, [] => Nat.le_refl _
  | w, c :: r => by
    have h1 := wcomp_len true r
    have h2 := wcomp_len false r
    rw [wcomp]
    split
    · split <;> simp only [List.length_cons] <;> omega
    · split <;> simp only [List.length_cons] <;> omega
/-! ### what may stand side by side in marks -/
def okT (p c : Nat) : Bool := ((p == 40 || p == 32) && (c == 84 || c == 70 || c == 87)) || ((p == 84 || p == 87 || p == 41) && (c == 41 || c == 32)) || ((p == 70 || p == 87) && c == 40)
def go : Nat → Int → List Nat → Bool
  | p, d, [] => okT p 41 && decide (d = 0)
  | p, d, c :: r => okT p c && (decide (0 ≤ dep d c) && go c (dep d c) r)
theorem chk_go : ∀ (l : List Nat) (d : Int), 0 ≤ d → (∀ p, p = 40 ∨ p = 41 ∨ p = 32 → chk p d l = go p d (wcomp false l)) ∧ chk 97 d l = go 87 d (wcomp true l)
  | [], d, _ => by
    refine ⟨fun p hp => ?_, ?_⟩
    · rcases hp with rfl | rfl | rfl <;> rfl
    · rfl
  | c :: r, d, hd => by
    by_cases hl : low c = true
    · have ih := (chk_go r d hd).2
      refine ⟨fun p hp => ?_, ?_⟩
      · rw [chk, wcomp, if_pos hl, if_neg (by decide), go, kind_low hl, dep_low d hl, ih]
        have : dep d 87 = d := rfl
        rw [this]
        rcases hp with rfl | rfl | rfl <;> rfl
      · rw [chk, wcomp, if_pos hl, if_pos rfl, kind_low hl, dep_low d hl, ih, decide_eq_true hd]
        rfl
    · by_cases hc : c = 40 ∨ c = 41 ∨ c = 32
      · have key : ∀ p q, okL p c = okT q c → chk p d (c :: r) = go q d (c :: wcomp false r) := by
          intro p q e
          rw [chk, go, kind_not hl, e]
          by_cases h0 : 0 ≤ dep d c
          · rw [(chk_go r _ h0).1 c hc]
          · rw [decide_eq_false h0]; rfl
        refine ⟨fun p hp => ?_, ?_⟩
        · rw [wcomp, if_neg hl, if_pos hc]
          refine key p p ?_
          rcases hp with rfl | rfl | rfl <;> rcases hc with rfl | rfl | rfl <;> rfl
        · rw [wcomp, if_neg hl, if_pos hc]
          refine key 97 87 ?_
          rcases hc with rfl | rfl | rfl <;> rfl
      · have hk : c ≠ 97 := by rintro rfl; exact hl rfl
        have e1 : ∀ p, okL p c = false := by
          intro p
          have h1 : ¬ c = 40 := fun h => hc (.inl h)
          have h2 : ¬ c = 41 := fun h => hc (.inr (.inl h))
          have h3 : ¬ c = 32 := fun h => hc (.inr (.inr h))
          simp [okL, h1, h2, h3, hk]
        have e2 : ∀ q, okT q 33 = false := by intro q; simp [okT]
        refine ⟨fun p hp => ?_, ?_⟩
        · rw [wcomp, if_neg hl, if_neg hc, chk, go, kind_not hl, e1, e2]; rfl
        · rw [wcomp, if_neg hl, if_neg hc, chk, go, kind_not hl, e1, e2]; rfl
/-! ### the four replacements -/
def rWF : List Nat → List Nat
  | 87 :: 40 :: r => 70 :: 40 :: rWF r
  | c :: r => c :: rWF r
  | [] => []
def mW (c : Nat) : Nat := if c = 87 then 84 else c
def rWT (l : List Nat) : List Nat := l.map mW
def rTT : List Nat → List Nat
  | 84 :: 32 :: 84 :: r => 84 :: rTT r
  | c :: r => c :: rTT r
  | [] => []
def rFT : List Nat → List Nat
  | 70 :: 40 :: 84 :: 41 :: r => 84 :: rFT r
  | c :: r => c :: rFT r
  | [] => []
theorem repWF : RepF [87, 40] [70, 40] rWF := ⟨rfl, fun r => rfl, fun c r h => by
  rw [rWF]
  rintro r' rfl rfl
  exact h ⟨r', rfl⟩⟩
theorem repWT : RepF [87] [84] rWT := ⟨rfl, fun r => rfl, fun c r h => by
  show mW c :: r.map mW = _
  rw [mW, if_neg]
  · rfl
  rintro rfl
  exact h ⟨r, rfl⟩⟩
theorem repTT : RepF [84, 32, 84] [84] rTT := ⟨rfl, fun r => rfl, fun c r h => by
  rw [rTT]
  rintro r' rfl rfl
  exact h ⟨r', rfl⟩⟩
theorem repFT : RepF [70, 40, 84, 41] [84] rFT := ⟨rfl, fun r => rfl, fun c r h => by
  rw [rFT]
  rintro r' rfl rfl
  exact h ⟨r', rfl⟩⟩
theorem okT_FW (p : Nat) : okT p 70 = okT p 87 := by simp [okT]
theorem okT_FT (p : Nat) : okT p 70 = okT p 84 := by simp [okT]
theorem go_WF (s : List Nat) : ∀ (p : Nat) (d : Int), go p d (rWF s) = go p d s := by
  fun_induction rWF s with
  | case1 r ih =>
    intro p d
    rw [go, go, go, go, ih, okT_FW]; rfl
  | case2 c r _ ih =>
    intro p d
    rw [go, go, ih]
  | case3 => intro p d; rfl
def noW : Nat → List Nat → Prop
  | _, [] => True
  | p, c :: r => ¬ (p = 87 ∧ c = 40) ∧ noW c r
theorem noW_WF (s : List Nat) : ∀ p : Nat, ¬ (p = 87 ∧ s.head? = some 40) → noW p (rWF s) := by
  fun_induction rWF s with
  | case1 r ih =>
    intro p _
    exact ⟨by omega, by omega, ih 40 (by omega)⟩
  | case2 c r h ih =>
    intro p hp
    refine ⟨fun hh => hp ⟨hh.1, by rw [hh.2]; rfl⟩, ih c fun hh => ?_⟩
    cases r with
    | nil => cases hh.2
    | cons e r =>
      have : e = 40 := by simpa using hh.2
      exact h r hh.1 (by rw [this])
  | case3 => intro p _; trivial
theorem okT_m {p c : Nat} (h : ¬ (p = 87 ∧ c = 40)) : okT (mW p) (mW c) = okT p c := by
  unfold mW
  by_cases hp : p = 87
  · subst hp
    have hc : ¬ c = 40 := fun e => h ⟨rfl, e⟩
    by_cases h2 : c = 87
    · subst h2; rfl
    · rw [if_pos rfl, if_neg h2]; simp [okT, hc]
  · by_cases h2 : c = 87
    · subst h2
      rw [if_neg hp, if_pos rfl]; simp [okT]
    · rw [if_neg hp, if_neg h2]
theorem dep_m (d : Int) (c : Nat) : dep d (mW c) = dep d c := by
  unfold mW
  split
  · rename_i h; subst h; rfl
  · rfl
theorem go_WT : ∀ (s : List Nat) (p : Nat) (d : Int), noW p s → go (mW p) d (rWT s) = go p d s
  | [], p, d, _ => by
    show (okT (mW p) 41 && decide (d = 0)) = (okT p 41 && decide (d = 0))
    have := okT_m (p := p) (c := 41) (by omega)
    rw [show mW 41 = 41 from rfl] at this
    rw [this]
  | c :: r, p, d, h => by
    show go (mW p) d (mW c :: rWT r) = _
    rw [go, go, okT_m h.1, dep_m, go_WT r c _ h.2]
theorem go_TT (s : List Nat) : ∀ (p : Nat) (d : Int), go p d (rTT s) = go p d s := by
  fun_induction rTT s with
  | case1 r ih =>
    intro p d
    rw [go, go, go, go, ih]
    have e : dep d 84 = d := rfl
    have e2 : dep d 32 = d := rfl
    rw [e, e2]
    have e3 : okT 84 32 = true := rfl
    have e4 : okT 32 84 = true := rfl
    rw [e, e3, e4]
    cases decide (0 ≤ d) <;> simp
  | case2 c r _ ih =>
    intro p d
    rw [go, go, ih]
  | case3 => intro p d; rfl
theorem go_T41 : ∀ (r : List Nat) (d : Int), go 41 d r = go 84 d r
  | [], d => rfl
  | c :: r, d => by
    rw [go, go]
    have : okT 41 c = okT 84 c := by simp [okT]
    rw [this]
theorem go_FT (s : List Nat) : ∀ (p : Nat) (d : Int), go p d (rFT s) = go p d s := by
  fun_induction rFT s with
  | case1 r ih =>
    intro p d
    rw [go, go, go, go, go, ih, okT_FT, go_T41]
    have e : dep d 84 = d := rfl
    have e1 : dep d 70 = d := rfl
    have e2 : dep d 40 = d + 1 := rfl
    have e3 : dep (d + 1) 84 = d + 1 := rfl
    have e4 : dep (d + 1) 41 = d := by rw [dep, if_neg (by decide), if_pos rfl]; omega
    have o1 : okT 70 40 = true := rfl
    have o2 : okT 40 84 = true := rfl
    have o3 : okT 84 41 = true := rfl
    rw [e, e1, e2, e3, e4, o1, o2, o3]
    by_cases h : 0 ≤ d
    · have h1 : 0 ≤ d + 1 := by omega
      simp [h, h1]
    · simp [h]
  | case2 c r _ ih =>
    intro p d
    rw [go, go, ih]
  | case3 => intro p d; rfl
/-! ### nothing left to replace -/
def irT : List Nat → Prop
  | 84 :: 32 :: 84 :: _ => False
  | _ :: r => irT r
  | [] => True
def irF : List Nat → Prop
  | 70 :: 40 :: 84 :: 41 :: _ => False
  | _ :: r => irF r
  | [] => True
theorem irT_tail {c : Nat} {r : List Nat} (h : irT (c :: r)) : irT r := by
  rw [irT.eq_def] at h
  split at h
  · exact h.elim
  · rename_i e; injection e with _ e; subst e; exact h
  · rename_i e; cases e
theorem irF_tail {c : Nat} {r : List Nat} (h : irF (c :: r)) : irF r := by
  rw [irF.eq_def] at h
  split at h
  · exact h.elim
  · rename_i e; injection e with _ e; subst e; exact h
  · rename_i e; cases e
theorem lenT (s : List Nat) : (rTT s).length ≤ s.length ∧ ((rTT s).length = s.length → rTT s = s ∧ irT s) := by
  fun_induction rTT s with
  | case1 r ih =>
    simp only [List.length_cons]
    exact ⟨by omega, fun h => by omega⟩
  | case2 c r hn ih =>
    simp only [List.length_cons]
    refine ⟨by omega, fun h => ?_⟩
    obtain ⟨h1, h2⟩ := ih.2 (by omega)
    refine ⟨by rw [h1], ?_⟩
    rw [irT]
    · exact h2
    · exact hn
  | case3 => exact ⟨Nat.le_refl _, fun _ => ⟨rfl, trivial⟩⟩
theorem lenF (s : List Nat) : (rFT s).length ≤ s.length ∧ ((rFT s).length = s.length → rFT s = s ∧ irF s) := by
  fun_induction rFT s with
  | case1 r ih =>
    simp only [List.length_cons]
    exact ⟨by omega, fun h => by omega⟩
  | case2 c r hn ih =>
    simp only [List.length_cons]
    refine ⟨by omega, fun h => ?_⟩
    obtain ⟨h1, h2⟩ := ih.2 (by omega)
    refine ⟨by rw [h1], ?_⟩
    rw [irF]
    · exact h2
    · exact hn
  | case3 => exact ⟨Nat.le_refl _, fun _ => ⟨rfl, trivial⟩⟩
theorem memT (s : List Nat) : 87 ∉ s → 87 ∉ rTT s := by
  fun_induction rTT s with
  | case1 r ih => intro h; simp at h ⊢; exact ih h
  | case2 c r hn ih => intro h; simp at h ⊢; exact ⟨h.1, ih h.2⟩
  | case3 => intro h; exact h
theorem memF (s : List Nat) : 87 ∉ s → 87 ∉ rFT s := by
  fun_induction rFT s with
  | case1 r ih => intro h; simp at h ⊢; exact ih h
  | case2 c r hn ih => intro h; simp at h ⊢; exact ⟨h.1, ih h.2⟩
  | case3 => intro h; exact h
theorem okT_open {p c : Nat} (hp : p = 40 ∨ p = 32) (hc : c ≠ 87) (h : okT p c = true) : c = 84 ∨ c = 70 := by
  rcases hp with rfl | rfl <;> simpa [okT, hc] using h
theorem okT_F {c : Nat} (h : okT 70 c = true) : c = 40 := by simpa [okT] using h
theorem okT_T {c : Nat} (h : okT 84 c = true) : c = 41 ∨ c = 32 := by simpa [okT] using h
theorem go_cons {p c : Nat} {d : Int} {r : List Nat} (h : go p d (c :: r) = true) : okT p c = true ∧ 0 ≤ dep d c ∧ go c (dep d c) r = true := by
  rw [go, Bool.and_eq_true, Bool.and_eq_true, decide_eq_true_eq] at h
  exact h
theorem irr : ∀ (n : Nat) (s : List Nat) (d : Int), s.length ≤ n → 0 ≤ d → 87 ∉ s → go 40 d s = true → irT s → irF s → (s = [84] ∧ d = 0) ∨ ∃ r, s = 84 :: 41 :: r
  | 0, s, d, hn, hd, hw, h, _, _ => by
    cases s with
    | nil => cases h
    | cons c r => cases hn
  | n + 1, s, d, hn, hd, hw, h, hT, hF => by
    -- a knot with a bracket open: what follows closes at once
    have fbr : ∀ (r : List Nat), r.length ≤ n → 87 ∉ r → go 70 d r = true → irT r → irF (70 :: r) → False := by
      intro r hr hw h hT hF
      cases r with
      | nil => cases h
      | cons e r =>
        obtain ⟨h1, h2, h3⟩ := go_cons h
        have := okT_F h1
        subst this
        have hd1 : dep d 40 = d + 1 := rfl
        rw [hd1] at h2 h3
        simp only [List.length_cons] at hr
        rcases irr n r (d + 1) (by omega) h2 (fun h => hw (List.mem_cons_of_mem _ h)) h3 (irT_tail hT) (irF_tail (irF_tail hF)) with ⟨_, h⟩ | ⟨r', rfl⟩
        · omega
        · exact hF
    cases s with
    | nil => cases h
    | cons c r =>
      obtain ⟨h1, h2, h3⟩ := go_cons h
      simp only [List.length_cons] at hn
      have hwc : c ≠ 87 := fun e => hw (by rw [e]; exact List.mem_cons_self)
      have hwr : 87 ∉ r := fun h => hw (List.mem_cons_of_mem _ h)
      rcases okT_open (.inl rfl) hwc h1 with rfl | rfl
      · have hd1 : dep d 84 = d := rfl
        rw [hd1] at h3
        cases r with
        | nil =>
          rw [go, Bool.and_eq_true, decide_eq_true_eq] at h3
          exact .inl ⟨rfl, h3.2⟩
        | cons e r =>
          obtain ⟨g1, g2, g3⟩ := go_cons h3
          rcases okT_T g1 with rfl | rfl
          · exact .inr ⟨r, rfl⟩
          · have hd2 : dep d 32 = d := rfl
            rw [hd2] at g3
            cases r with
            | nil => cases g3
            | cons g r =>
              obtain ⟨k1, k2, k3⟩ := go_cons g3
              have hwg : g ≠ 87 := fun e => hwr (by rw [e]; simp)
              rcases okT_open (.inr rfl) hwg k1 with rfl | rfl
              · exact hT.elim
              · have hd3 : dep d 70 = d := rfl
                rw [hd3] at k3
                simp only [List.length_cons] at hn
                exact (fbr r (by omega) (fun h => hwr (by simp [h])) k3 (irT_tail (irT_tail (irT_tail hT))) (irF_tail (irF_tail hF))).elim
      · have hd1 : dep d 70 = d := rfl
        rw [hd1] at h3
        exact (fbr r (by omega) hwr h3 (irT_tail hT) hF).elim
theorem irr0 {s : List Nat} (hw : 87 ∉ s) (h : go 40 0 s = true) (hT : irT s) (hF : irF s) : s = [84] := by
  rcases irr s.length s 0 (Nat.le_refl _) (Int.le_refl _) hw h hT hF with ⟨e, _⟩ | ⟨r, rfl⟩
  · exact e
  · obtain ⟨_, _, h3⟩ := go_cons h
    obtain ⟨_, h2, _⟩ := go_cons h3
    exact absurd h2 (by decide)
def rnd (s : List Nat) : List Nat := rFT (rTT s)
def rnds : Nat → List Nat → List Nat
  | 0, s => s
  | n + 1, s => rnds n (rnd s)
theorem go_rnd (s : List Nat) (p : Nat) (d : Int) : go p d (rnd s) = go p d s := by rw [rnd, go_FT, go_TT]
theorem go_rnds : ∀ (n : Nat) (s : List Nat) (p : Nat) (d : Int), go p d (rnds n s) = go p d s
  | 0, _, _, _ => rfl
  | n + 1, s, p, d => by rw [rnds, go_rnds n, go_rnd]
theorem rnd_len (s : List Nat) : (rnd s).length ≤ s.length := by
  have h1 := (lenT s).1
  have h2 := (lenF (rTT s)).1
  unfold rnd
  omega
theorem rnds_end : ∀ (n : Nat) (s : List Nat), 87 ∉ s → s.length ≤ n + 1 → go 40 0 s = true → rnds n s = [84]
  | 0, s, hw, hl, h => by
    cases s with
    | nil => cases h
    | cons c r =>
      simp only [List.length_cons] at hl
      obtain rfl : r = [] := List.length_eq_zero_iff.mp (by omega)
      show [c] = [84]
      exact irr0 hw h (by simp [irT]) (by simp [irF])
  | n + 1, s, hw, hl, h => by
    have h1 := lenT s
    have h2 := lenF (rTT s)
    have h3 : 87 ∉ rnd s := memF _ (memT _ hw)
    have h4 : go 40 0 (rnd s) = true := by rw [go_rnd]; exact h
    rw [rnds]
    by_cases hlt : (rnd s).length < s.length
    · exact rnds_end n _ h3 (by omega) h4
    · have e0 : (rFT (rTT s)).length = (rnd s).length := rfl
      obtain ⟨e1, i1⟩ := h1.2 (by omega)
      obtain ⟨e2, i2⟩ := h2.2 (by omega)
      rw [e1] at e2 i2
      have e3 : rnd s = s := by rw [rnd, e1, e2]
      have e4 := irr0 hw h i1 i2
      rw [e3]
      exact rnds_end n s hw (by rw [e4]; simp) h
/-- the law's own way to tell a line that is one: it tells what read asks -/
theorem well_iff (l : List Nat) : (rnds l.length (rWT (rWF (l.foldl wst []))) = [84]) ↔ chk 40 0 l = true := by
  have e1 := wst_run l []
  have e2 : l.foldl wst [] = wcomp false l := by rw [e1]; rfl
  rw [e2, (chk_go l 0 (Int.le_refl _)).1 40 (.inl rfl), ← go_WF]
  have e3 : go 40 0 (rWT (rWF (wcomp false l))) = go 40 0 (rWF (wcomp false l)) := go_WT _ 40 0 (noW_WF _ 40 (by omega))
  rw [← e3]
  have hw : 87 ∉ rWT (rWF (wcomp false l)) := by
    intro h
    obtain ⟨c, _, h2⟩ := List.mem_map.mp h
    unfold mW at h2
    split at h2
    · cases h2
    · exact absurd h2 ‹_›
  have lenWF : ∀ s : List Nat, (rWF s).length = s.length := by
    intro s
    fun_induction rWF s with
    | case1 r ih => simp [ih]
    | case2 c r _ ih => simp [ih]
    | case3 => rfl
  have hl : (rWT (rWF (wcomp false l))).length ≤ l.length + 1 := by
    have := wcomp_len false l
    rw [rWT, List.length_map, lenWF]
    omega
  constructor
  · intro h
    rw [← go_rnds l.length, h]
    rfl
  · exact fun h => rnds_end _ _ hw hl h
end TX
namespace TX
open PySem PySem.Spec PyProof.Rows L2 TT

/-! ### a run never takes a token back -/
theorem runs_toks {M : Model} {Γ : PySem.Ctx} {p : Pos} {t : Sem Fin} {fs : List Frame} {s s' : Shared} {e : End} (h : Runs M Γ p t fs s e s') : s.toks ≤ s'.toks := by
  induction h with
  | done => exact Nat.le_refl _
  | raise => exact Nat.le_refl _
  | yield => exact Nat.le_refl _
  | fresh _ ih => exact Nat.le_trans (Nat.le_succ _) ih
  | again _ _ ih => exact ih
  | rule _ ih => exact ih
  | «at» _ ih => exact ih
  | load _ _ ih => exact ih
  | update _ _ ih => exact ih
  | loadIfAlive _ ih => exact ih
  | point _ ih => exact ih
  | alloc _ ih => exact ih
  | ask _ ih => exact ih
  | choose _ _ ih => exact ih
  | os _ ih => exact ih
  | handled _ ih => exact ih
  | genState _ _ ih => exact ih
  | stack _ ih => exact ih
  | thread _ ih => exact ih
  | newGen _ ih => exact ih
  | call _ _ ih1 ih2 => exact Nat.le_trans ih1 ih2
  | callSusp _ ih => exact ih
  | resumeFresh _ _ _ _ ih1 ih2 => exact Nat.le_trans ih1 ih2
  | resumeSuspended _ _ _ _ ih1 ih2 => exact Nat.le_trans ih1 ih2
  | resumeJustStarted _ _ _ ih => exact ih
  | resumeThrowFresh _ _ ih => exact ih
  | resumeRunning _ _ ih => exact ih
  | resumeFinished _ _ ih => exact ih
  | segRet _ _ ih1 ih2 => exact Nat.le_trans ih1 ih2
  | segGen _ _ ih1 ih2 => exact Nat.le_trans ih1 ih2
  | segSuspOut _ _ ih => exact ih
  | segSuspGen _ _ _ _ ih1 ih2 => exact Nat.le_trans ih1 ih2
theorem wakes_toks {M : Model} {Γ : PySem.Ctx} {p : Pos} {g : Nat} {r : Resume} {s s' : Shared} {res : GenResult} (h : Wakes M Γ p g r s res s') : s.toks ≤ s'.toks := by
  unfold Wakes at h
  split at h
  · exact h.elim
  · split at h
    · obtain ⟨_, s1, h1, _, _, rfl⟩ := h
      have h2 := runs_toks h1
      exact h2
    · rw [h.2]; exact Nat.le_refl _
    · rw [h.2]; exact Nat.le_refl _
  · obtain ⟨_, s1, h1, _, _, rfl⟩ := h
    have h2 := runs_toks h1
    exact h2
  · rw [h.2]; exact Nat.le_refl _
  · rw [h.2]; exact Nat.le_refl _
theorem wp_toks {α : Type} {M : Model} {Γ : PySem.Ctx} (t : Sem α) : ∀ {Q : α → Pos → Shared → Prop} {E : Value → Pos → Shared → Prop} {p : Pos} {s : Shared}, Sem.wp M Γ t Q E p s →
    Sem.wp M Γ t (fun a p s' => s.toks ≤ s'.toks ∧ Q a p s') (fun e p s' => s.toks ≤ s'.toks ∧ E e p s') p s := by
  induction t with
  | pure x => intro Q E p s h; exact ⟨Nat.le_refl _, h⟩
  | raise v => intro Q E p s h; exact ⟨Nat.le_refl _, h⟩
  | unsupported | finish | yield | fork | await | register => intro Q E p s h; exact h
  | rule _ k ih | «at» _ k ih | alloc _ k ih | loadIfAlive _ k ih | point _ k ih | ask k ih | os _ _ k ih | handled _ k ih | newGen _ k ih | stack k ih | thread k ih => intro Q E p s h; exact ih _ h
  | fresh k ih =>
    intro Q E p s h
    exact Sem.wp_mono M Γ _ (fun _ _ _ q => ⟨Nat.le_trans (Nat.le_succ _) q.1, q.2⟩) (fun _ _ _ q => ⟨Nat.le_trans (Nat.le_succ _) q.1, q.2⟩) _ _ (ih _ h)
  | load a _ k ih | genState a k ih => intro Q E p s h; obtain ⟨o, ho, h⟩ := h; exact ⟨o, ho, ih _ h⟩
  | update a _ f k ih | choose _ _ k ih => intro Q E p s h; exact ⟨h.1, ih _ h.2⟩
  | call c hh g l k ih =>
    intro Q E p s h
    obtain ⟨r, s1, h1, h2⟩ := h
    have h3 := runs_toks h1
    exact ⟨r, s1, h1, Sem.wp_mono M Γ _ (fun _ _ _ q => ⟨Nat.le_trans h3 q.1, q.2⟩) (fun _ _ _ q => ⟨Nat.le_trans h3 q.1, q.2⟩) _ _ (ih _ h2)⟩
  | resume g r l k ih =>
    intro Q E p s h
    obtain ⟨res, s1, h1, h2⟩ := h
    have h3 := wakes_toks h1
    exact ⟨res, s1, h1, Sem.wp_mono M Γ _ (fun _ _ _ q => ⟨Nat.le_trans h3 q.1, q.2⟩) (fun _ _ _ q => ⟨Nat.le_trans h3 q.1, q.2⟩) _ _ (ih _ h2)⟩
/-- what is wanted behind may lean on a token's being there -/
theorem tkd {α : Type} {M : Model} {A : Around} {t : Sem α} {Q Q' : α → Shared → Prop} {E : Value → Shared → Prop} {s : Shared} (h0 : 0 < s.toks) (h : wpAny M A t Q E s) (hQ : ∀ a s', 0 < s'.toks → Q a s' → Q' a s') : wpAny M A t Q' E s :=
  fun Γ p hΓ => Sem.wp_mono M Γ t (fun _ _ s' q => hQ _ _ (Nat.lt_of_lt_of_le h0 q.1) q.2) (fun _ _ _ q => q.2) _ _ (wp_toks t (h Γ p hΓ))

/-! ### the rules where a token is there -/
def PE1 (X : Cx) (e : Expr) (t : TE) : Prop :=
  ∀ (pins : List (Addr × Obj)) (s : Shared) (σ : L2.St) (H : Hp) (Q : VK), Inv X pins σ H s → 0 < s.toks → t σ H Q → wpAny (model X.prog X.w) X.A (eval e X.env) (EP X pins σ Q) X.xe s
def PI1 (X : Cx) (tg iter : Expr) (wi : TI) : Prop :=
  ∀ (pins : List (Addr × Obj)) (s : Shared) (σ : L2.St) (H : Hp) (R : It → Hp → Prop), Inv X pins σ H s → 0 < s.toks → wi σ H R →
    wpAny (model X.prog X.w) X.A (eval iter X.env) (fun v s1 => wpAny (model X.prog X.w) X.A (pyIter v) (PIE X pins σ tg R) X.xe s1) X.xe s
def PS1 (X : Cx) (st : Stmt) (t : TS) : Prop :=
  ∀ (pins : List (Addr × Obj)) (s : Shared) (σ : L2.St) (H : Hp) (D : Ends), Inv X pins σ H s → 0 < s.toks → t D σ H → wpAny (model X.prog X.w) X.A (exec st X.env) (SP X pins D) X.xe s
def PSs1 (X : Cx) (st : List Stmt) (t : TS) : Prop :=
  ∀ (pins : List (Addr × Obj)) (s : Shared) (σ : L2.St) (H : Hp) (D : Ends), Inv X pins σ H s → 0 < s.toks → t D σ H → wpAny (model X.prog X.w) X.A (execs st X.env) (SP X pins D) X.xe s
section
variable {X : Cx} {st : Stmt} {rest : List Stmt} {t u : TS} {e : Expr} {te : TE} {pos : Pos} {tg : Expr}
theorem PE1.of (h : PE X e te) : PE1 X e te := fun pins s σ H Q I _ q => h pins s σ H Q I q
theorem PI1.of {iter : Expr} {wi : TI} (h : PI X tg iter wi) : PI1 X tg iter wi := fun pins s σ H Q I _ q => h pins s σ H Q I q
theorem PS1.of (h : PS X st t) : PS1 X st t := fun pins s σ H Q I _ q => h pins s σ H Q I q
theorem PSs1.of (h : PSs X rest t) : PSs1 X rest t := fun pins s σ H Q I _ q => h pins s σ H Q I q
theorem pss1_cons (h1 : PS1 X st t) (h2 : PSs1 X rest u) : PSs1 X (st :: rest) (tSeq t u) := by
  intro pins s σ H D I h0 h
  refine wpAny_execs_cons (tkd h0 (h1 pins s σ H { D with nx := u D } I h0 h) fun f s1 h0' q => ?_)
  cases f with
  | next =>
    obtain ⟨σ', H', I', q⟩ := q
    exact h2 pins s1 σ' H' D I' h0' q
  | ret v => exact q
  | brk => exact q
  | cont => exact q
theorem pss1_one (h1 : PS1 X st t) : PSs1 X [st] t := by
  intro pins s σ H D I h0 h
  refine wpAny_execs_cons (thn (h1 pins s σ H D I h0 h) fun f s1 q => ?_)
  cases f with
  | next => exact wpAny_execs_nil q
  | ret v => exact q
  | brk => exact q
  | cont => exact q
theorem ps_ret1 (he : PE1 X e te) : PS1 X (.Return (some e) pos) (tRet te) := by
  intro pins s σ H D I h0 h
  exact wpAny_Return_some (thn (he pins s σ H _ I h0 h) fun v s1 ⟨x, H1, I1, r1, q1⟩ => ⟨x, σ, H1, I1, r1, q1⟩)
theorem ps_set1 {i : Nat} {x : Str} {pos' : Pos} (hN : X.N.Nodup) (hi : X.N[i]? = some x) (hx : Loc X.env.scope x) (he : PE1 X e te) (hs : swapsWith e (some (.Name x pos')) pos.line X.env = pure false := by rfl) (hf : X.fn x = true ∨ X.env.scope.names.lookup x = some .local := by first | exact .inl rfl | exact .inr rfl | assumption) :
    PS1 X (.Assign [.Name x pos'] e pos) (tAsg te (gName i)) := by
  intro pins s σ H D I h0 h
  refine wpAny_Assign_Name (thn (he pins s σ H _ I h0 h) fun v s1 ⟨y, H1, I1, r1, q1⟩ => ?_) hs
  exact store_ok I1 hN hi hx r1 (fun s2 I2 => ⟨_, H1, I2, q1⟩) hf
/-- name = text, and from then on a token is there -/
theorem pss_setTok {i : Nat} {x w : Str} {j : Nat} {p pos' : Pos} (hN : X.N.Nodup) (hi : X.N[i]? = some x) (hx : Loc X.env.scope x) (h2 : PSs1 X rest u) (hs : swapsWith (.Constant (.str w) j p) (some (.Name x pos')) pos.line X.env = pure false := by rfl) (hf : X.fn x = true ∨ X.env.scope.names.lookup x = some .local := by first | exact .inl rfl | exact .inr rfl | assumption) :
    PSs X (.Assign [.Name x pos'] (.Constant (.str w) j p) pos :: rest) (tSeq (tAsg (tC (.str w)) (gName i)) u) := by
  intro pins s σ H D I h
  refine wpAny_execs_cons (wpAny_Assign_Name (Calls.Constant_str ?_) hs)
  refine tkd (s := { s with toks := s.toks + 1 }) (Q := fun _ s2 => ∃ σ' H', Inv X pins σ' H' s2 ∧ u D σ' H') (Nat.succ_pos _) (store_ok (v := V.str w) (I.tok (s.toks + 1)) hN hi hx ⟨_, rfl⟩ (fun s2 I2 => ⟨_, H, I2, h⟩) hf) fun _ s2 h0 ⟨σ', H', I', q⟩ => ?_
  exact h2 pins s2 σ' H' D I' h0 q
/-- a test against a text, and from then on a token is there -/
theorem pss_ifTok {a : Expr} {op : CmpOp} {r : R2} {ta : TE} {w : Str} {j : Nat} {p pc : Pos} {A B : List Stmt} {tA tB : TS} (ho : OpR X (compareOp op) r) (ha : PE X a ta) (hm : behindInMarks op (.Constant (.str w) j p) = false) (hA : PSs X A tA) (hB : PSs X B tB) (h2 : PSs1 X rest u) :
    PSs X (.If (.Compare a [op] [.Constant (.str w) j p] pc) A B pos :: rest) (tSeq (tIfS (tTest (tOp r ta (tC (.str w)))) tA tB) u) := by
  intro pins s σ H D I h
  refine wpAny_execs_cons (wpAny_If (wpAny_isTrue_Compare1 (thn (ha pins s σ H _ I h) fun v s1 ⟨x, H1, I1, r1, q1⟩ => Calls.Constant_str ?_) hm))
  refine tkd (Nat.succ_pos _) (ho pins { s1 with toks := s1.toks + 1 } σ H1 x (.str w) v _ _ (I1.tok _) r1 ⟨_, rfl⟩ q1) fun c s3 h0 ⟨z, H3, I3, r3, k, e, q3⟩ => ?_
  subst e
  cases r3
  refine wpAny_truthy_bool ?_
  have fin : ∀ (f : Flow) (s4 : Shared), 0 < s4.toks → SP X pins { D with nx := u D } f s4 → (match f with | .next => wpAny (model X.prog X.w) X.A (execs rest X.env) (SP X pins D) X.xe s4 | f => SP X pins D f s4) := by
    intro f s4 h0' q
    cases f with
    | next =>
      obtain ⟨σ', H', I', q⟩ := q
      exact h2 pins s4 σ' H' D I' h0' q
    | ret v => exact q
    | brk => exact q
    | cont => exact q
  cases k with
  | true => exact tkd h0 (hA pins s3 σ H3 { D with nx := u D } I3 q3) fun f s4 h0' q => fin f s4 h0' q
  | false => exact tkd h0 (hB pins s3 σ H3 { D with nx := u D } I3 q3) fun f s4 h0' q => fin f s4 h0' q
theorem ps_for1 {iter : Expr} {body : List Stmt} {wi : TI} {g : TG} {tb : TS} (hp : PassesOwn (model X.prog X.w) X.A X.env X.xe) (hc : X.calm = true) (hi : PI1 X tg iter wi) (hg : PG X tg g) (hb : PSs1 X body tb)
    (hs : ∀ x, foldedSetIterable iter X.env x = pure x := by intro _; rfl) : PS1 X (.For tg iter body [] pos) (tFor wi g tb) := by
  intro pins s σ H D I h0 h
  refine wpAny_For (tkd h0 (hi pins s σ H _ I h0 h) fun v s1 h01 h1 => tkd h01 h1 fun itv s2 h02 h2 => ?_) hs
  obtain ⟨it, fp, tn, J, H2, e, I2, T, st2, f2, W, ⟨m0, w0⟩, turn⟩ := h2
  subst e
  have stat : ∀ {H' : Hp}, (∀ b ∈ fp, H' b = none) → ∀ b ∈ fp, FpOk X pins H' b := fun hn b hb => ⟨hn b hb, (f2 b hb).2⟩
  refine codeAny_forLoop_any (fun n s' => 0 < s'.toks ∧ ∃ i σ' H', Inv X pins σ' H' s' ∧ tn i s'.heap ∧ (∀ b ∈ fp, H' b = none) ∧ W i n σ' H') ?_ m0 ⟨h02, 0, σ, H2, I2, st2, fun b hb => (f2 b hb).1, w0⟩
  rintro n s3 ⟨h03, i, σ3, H3, I3, st3, fr3, w3⟩
  rcases turn i n σ3 H3 w3 with ⟨stop, qn⟩ | ⟨go, N, hN, step⟩
  · refine wpAny_passesOwn hp (thn (T.done X rfl rfl rfl hc i pins s3 σ3 H3 X.xe I3 (stat fr3) st3 stop) fun r s4 ⟨hr, I4⟩ => ?_)
    subst hr
    exact wpAny_execs_nil ⟨σ3, H3, I4, qn⟩
  · refine wpAny_passesOwn hp (tkd h03 (T.item X rfl rfl rfl hc i pins s3 σ3 H3 X.xe I3 (stat fr3) st3 go) fun r s4 h04 ⟨u, hr, h4⟩ => ?_)
    subst hr
    refine wpAny_passesOwn hp (tkd h04 h4 fun _ s5 h05 ⟨x, H5, I5, r5, y5, st5, fr5⟩ => ?_)
    have I5' := I5.pinned (stat fr5) (T.obj _ _ st5)
    refine wpAny_passesOwn hp (tkd h05 (hg _ s5 σ3 H5 x u _ I5' r5 (step x H5 y5)) fun _ s6 h06 ⟨σ6, H6, I6, q6⟩ => ?_)
    refine wpAny_passesOwn hp (tkd h06 (hb _ s6 σ6 H6 _ I6 h06 q6) fun f s7 h07 q7 => ?_)
    have again : ∀ {σ7 : L2.St} {H7 : Hp}, Inv X (pins ++ pinsAt fp s5.heap) σ7 H7 s7 → N σ7 H7 → ∃ m, m < n ∧ (0 < s7.toks ∧ ∃ i σ' H', Inv X pins σ' H' s7 ∧ tn i s7.heap ∧ (∀ b ∈ fp, H' b = none) ∧ W i m σ' H') := fun {σ7 H7} I7 n7 => by
      obtain ⟨m', hm, w7⟩ := hN σ7 H7 n7
      refine ⟨m', hm, h07, i + 1, σ7, H7, I7.unpinned, T.keep _ _ _ st5 fun b hb o e => (I7.pin (b, o) (List.mem_append_right _ (List.mem_append_right _ (mem_pinsAt hb e)))).1, fun b hb => ?_, w7⟩
      obtain ⟨o, e, d⟩ := T.obj _ _ st5 b hb
      exact (I7.pin (b, o) (List.mem_append_right _ (List.mem_append_right _ (mem_pinsAt hb e)))).2.1
    cases f with
    | next => obtain ⟨σ7, H7, I7, n7⟩ := q7; exact again I7 n7
    | cont => obtain ⟨σ7, H7, I7, n7⟩ := q7; exact again I7 n7
    | brk => obtain ⟨σ7, H7, I7, q7⟩ := q7; exact ⟨σ7, H7, I7.unpinned, q7⟩
    | ret v => obtain ⟨x7, σ7, H7, I7, r7, q7⟩ := q7; exact ⟨x7, σ7, H7, I7.unpinned, r7, q7⟩
end

/-! ### a def that is called where a token is there -/
structure FnOk1 (P : Program) (w : World) (K : PySem.W.Frag) (mg : Str → Option Value) (base : Heap) (CX : CXT) (k : Nat) (f : Addr) (fd : FuncData) (ps : List Str) (sp : Sp) : Prop where
  len : ∀ vs H Q E, sp vs H Q E → vs.length = ps.length
  run : ∀ (A : Around) (outer : List Env) (s : Shared) (H : Hp) (args : Args) (us : List Value) (vs : List V) (Q : VK) (E : XK), Room k A → Env0 P w K mg base A outer s H → 0 < s.toks → BindsTo s fd args (ps.zip us) → Vals vs us → sp vs H Q E →
    codeAny (model P w) A (.call (.ref f) args) (CR CX outer P w H s Q E) s
section
variable {P : Program} {w : World} {K : PySem.W.Frag} {mg : Str → Option Value} {base : Heap}
theorem fun_ok1 {x qual : Str} {st : Stmt} {f : Addr} {fd : FuncData} {N ps : List Str} {k : Nat} {sp : Sp} (F : Fun K x qual st f fd) (S : FnScope N ps (defScope st)) (len : ∀ vs H Q E, sp vs H Q E → vs.length = ps.length)
    (hbody : ∀ (cdv : Value) (A : Around) (outer : List Env) (s : Shared) (H : Hp) (vs : List V) (Q : VK) (E : XK), Room k (A.deeper (envOfC qual (defScope st) s.heap.objs.size f cdv)) → sp vs H Q E →
      ∃ t, PSs1 (cxOf CX0 P w K mg base N qual (defScope st) f cdv A outer s H E).nox (defBody st) t ∧ t { nx := fun _ H' => Q .non H', rt := Q } (start N vs) H) : FnOk1 P w K mg base CX0 (k + 1) f fd ps sp := by
  obtain ⟨oc, od, kV, doc, pm, an, cdv, ct, osl, rfl, lk, hcd⟩ := F.ex
  refine ⟨len, fun A outer s H args us vs Q E hr e0 h0 hb r hsp => ?_⟩
  have hl := len _ _ _ _ hsp
  have KX : K.In s.heap := e0.mod.kin.keeps fun b o e => (e0.bs b o e).1
  have lim : s.heap.NoLimit := e0.mod.nolimit.keeps fun b o e => (e0.bs b o e).1
  have hkind : ∀ y ∈ ps.zip us, (defScope st).names.lookup y.1 = some .local ∨ ((defScope st).names.lookup y.1 = some .cell ∧ ((cellsFrom (s.heap.objs.size + 1) (defScope st).names []).lookup y.1).isSome = true) := fun ⟨n, v⟩ hy => by
    rcases S.par n (List.of_mem_zip hy).1 with q | q
    · exact .inl q
    · exact .inr ⟨q, PySem.W.cellsFrom_some _ _ _ (.inl q)⟩
  refine codeAny_call_function hr.depth (KX _ _ lk) rfl S.co S.gen rfl (PySem.W.codeRec_of KX hcd) (hb _ _ _ _ ?_)
  refine tkd (Q := fun env s1 => env = envOfC qual (defScope st) s.heap.objs.size f cdv ∧ InCallC s s.heap.objs.size (bindL (envOfC qual (defScope st) s.heap.objs.size f cdv).kindOf (ps.zip us) fun _ => none) (cellsFrom (s.heap.objs.size + 1) (defScope st).names []) (bindC (envOfC qual (defScope st) s.heap.objs.size f cdv).kindOf (ps.zip us) fun _ => none) s1) h0 (wpAny_newFunctionEnv_cells S.kind hkind fun env he s1 x => ⟨he, by subst he; exact x⟩) fun env s1 h01 ⟨he, x⟩ => ?_
  subst he
  refine ⟨lim.keeps x.toInCall.keep, codeAny_func ?_⟩
  obtain ⟨t, ht, hq⟩ := hbody cdv A outer s H vs Q E (hr.deeper _) hsp
  have I : Inv (cxOf CX0 P w K mg base N qual (defScope st) f cdv A outer s H E) [] (start N vs) H s1 := inv_start S hr.hd e0 hl r x
  refine wpAny_mono (ht [] s1 (start N vs) H _ (I.wish _) h01 hq) (fun fl s' hs => ?_) fun e s' hs => hs.elim
  have fin : ∀ {σ' : L2.St} {H' : Hp} {v : V} {u : Value}, Inv (cxOf CX0 P w K mg base N qual (defScope st) f cdv A outer s H E) [] σ' H' s' → RelV v u → Q v H' → CE outer P w H s Q u s' :=
    fun {σ' H' v u} J rv q => ⟨v, H', J.os, J.bare, J.base, J.hok, rv, q⟩
  cases fl with
  | ret u =>
    obtain ⟨v, σ', H', J, rv, q⟩ := hs
    exact fin J.unwish rv q
  | next =>
    obtain ⟨σ', H', J, q⟩ := hs
    exact fin (v := V.non) (u := Value.none) J.unwish rfl q
  | brk =>
    obtain ⟨_, _, _, q⟩ := hs
    exact False.elim q
  | cont =>
    obtain ⟨_, _, _, q⟩ := hs
    exact False.elim q
end
structure OkT (P : Program) (w : World) (K : PySem.W.Frag) (mg : Str → Option Value) (base : Heap) (k : Nat) (x : Str) (ps : List Str) (sp : Sp) : Prop where
  ex : ∃ (f : Addr) (fd : FuncData), FnOk1 P w K mg base CX0 k f fd ps sp ∧ mg x = some (.ref f) ∧ PySem.W.keepIn K (.ref f) = true ∧ Binds K fd ps []
theorem pe_fn1 {X : Cx} {k : Nat} {x : Str} {ps : List Str} {sp : Sp} {e : Expr} {es : List Expr} {t : TA} {p pos : Pos} (F : OkT X.prog X.w X.K X.mg X.base k x ps sp) (hr : Room k X.A) (hg : Gl X x) (ha : PA X (e :: es) t)
    (hdb : (x == ("__debug__" : Str)) = false := by decide) (he : starEach (e :: es) X.env = (false, eval e X.env) :: starEach es X.env := by rfl) (hpl : (backTo pos (starEach es X.env)).any (·.1) = false := by rfl) :
    PE1 X (.Call (.Name x p) (e :: es) [] pos) (tCall sp [] E0 t) := by
  obtain ⟨f, fd, F, hm, hk, hb⟩ := F.ex
  intro pins s σ H Q I h0 h
  refine wpAny_Call_Name_kw (ld_glob I hg hm ?_ hdb)
  refine PySem.W.callWith_K (h₀ := X.base) I.ok.mod.kin hk (tkd h0 (ha pos pins s σ H _ I h) fun us s1 h01 ⟨vs, H1, I1, r, q⟩ => ⟨I1.kIn, ?_⟩) he hpl
  have hq : sp vs H1 Q E0 := by simpa using q
  have hl : us.length = ps.length := by rw [← r.length]; exact F.len _ _ _ _ hq
  have hbs := hb s1 us I1.kIn (by simpa using hl)
  refine wpAny_call (codeAny_mono (F.run X.A X.stack s1 H1 ⟨us, []⟩ us vs Q E0 hr I1.env0 h01 (by simpa using hbs) r hq) fun r s' hq => ?_)
  cases r with
  | error e => exact False.elim hq
  | ok fl =>
    cases fl with
    | ret u => exact I1.after hq
    | next => exact False.elim hq
    | brk => exact False.elim hq
    | cont => exact False.elim hq
end TX
namespace TX
open PySem PySem.Spec PyProof.Rows L2 TT PySem.Builtin PySem.Builtin.Str

/-! ### for over a text -/
def asc (x : Str) : Prop := ∀ c ∈ x.cps.toList, c < 128
theorem asc_all {x : Str} (h : asc x) : x.cps.all (· < 128) = true := by
  rw [← Array.all_toList, List.all_eq_true]
  exact fun c hc => decide_eq_true (h c hc)
def Its (x : Str) : It := ⟨fun i _ => i < x.cps.size, fun i H v H' => H' = H ∧ ∃ c, x.cps.toList[i]? = some c ∧ v = .str ⟨#[c]⟩, fun i _ => x.cps.size ≤ i⟩
theorem turn_str {P : Program} {w : World} {K : PySem.W.Frag} {tg : Expr} (x : Str) (t : Tok) (it : Addr) : Turn P w K tg (Its x) [it] it (fun i h => h.IsStrIter it "str_ascii_iterator" x t i) where
  mem := by simp
  obj := fun i h st b hb => by
    have e : b = it := by simpa using hb
    subst e
    obtain ⟨o, e, c, d⟩ := st
    exact ⟨o, e, fun v z => by rw [d] at z; cases z⟩
  keep := fun i h h' st k => by
    obtain ⟨o, e, c, d⟩ := st
    exact ⟨o, k it (by simp) o e, c, d⟩
  item := by
    intro X hP hw hK hc i pins s σ H E I hf st hg
    subst hP hw hK
    have hg : i < x.cps.size := hg
    obtain ⟨f0, f1, f2, f3, f4, f5⟩ := hf it (by simp)
    refine wpAny_pyNext_ascii_item st (c := x.cps[i]) (by simp [hg]) fun h' st' sb => ?_
    have I1 : Inv X pins σ H { s with heap := h', toks := s.toks + 1 } := I.turned (fun b o hb e => (sb.2 b hb).trans e) f0 f1 f3 f4 f5
    obtain ⟨o, e, c, d⟩ := id st'
    exact ⟨_, rfl, go_of (s := { s with heap := h', toks := s.toks + 1 }) e c d (by decide) ⟨.str ⟨#[x.cps[i]]⟩, H, I1, ⟨_, rfl⟩, ⟨rfl, x.cps[i], by simp [hg], rfl⟩, st', fun b hb => (hf b hb).1⟩⟩
  done := by
    intro X hP hw hK hc i pins s σ H E I hf st hg
    subst hP hw hK
    have hg : x.cps.size ≤ i := hg
    obtain ⟨f0, f1, f2, f3, f4, f5⟩ := hf it (by simp)
    exact wpAny_pyNext_ascii_end (I.ok.hd hc) st (by simp [hg]) fun h' eb => ⟨rfl, I.turned (t' := s.toks) (fun b o hb e => eb b o hb e) f0 f1 f3 f4 f5⟩
  self := fun _ _ _ _ _ st h => wpAny_pyIter_striter_ascii st h
inductive StrI (R : It → Hp → Prop) (x : V) (H1 : Hp) : Prop
  | mk (z : Str) (e : x = .str z) (h : asc z) (q : R (Its z) H1) : StrI R x H1
def iStr (tl : TE) : TI := fun σ H R => tl σ H (StrI R)
section
variable {X : Cx} {tg : Expr}
theorem pi_str {l : Expr} {tl : TE} (hl : PE X l tl) : PI X tg l (iStr tl) := by
  intro pins s σ H R I h
  refine thn (hl pins s σ H _ I h) fun v s1 ⟨x, H1, I1, r1, q1⟩ => ?_
  obtain ⟨z, e, ha, q⟩ := q1
  subst e
  obtain ⟨t, rfl⟩ := r1
  refine wpAny_pyIter_ascii (asc_all ha) ?_
  refine ⟨s1.heap.objs.size, [s1.heap.objs.size], _, _, H1, rfl, I1.kept (t' := s1.toks) fun b o e => Heap.get?_push_of_some _ e, turn_str z t _, ⟨_, Heap.get?_push_size _ rfl, rfl, rfl⟩, fun b hb => ?_, q⟩
  have e : b = s1.heap.objs.size := by simpa using hb
  subst e
  exact I1.fpOk (Nat.le_refl _) (I1.hok.fresh (Nat.le_refl _))
theorem pi_list1 {l : Expr} {tl : TE} (hl : PE1 X l tl) : PI1 X tg l (iList X.K tl) := by
  intro pins s σ H R I h0 h
  refine thn (hl pins s σ H _ I h0 h) fun v s1 ⟨x, H1, I1, r1, q1⟩ => ?_
  obtain ⟨a, e, ⟨xs, hq⟩, q⟩ := q1
  subst e
  cases r1
  obtain ⟨its, rv, p, hz⟩ := I1.list hq
  refine wpAny_pyIter_list p.isList ?_
  refine ⟨s1.heap.objs.size, [s1.heap.objs.size], _, _, H1, rfl, I1.kept (t' := s1.toks) fun b o e => Heap.get?_push_of_some _ e, turn_list a _, ⟨_, Heap.get?_push_size _ rfl, rfl, rfl⟩, fun b hb => ?_, q⟩
  have e : b = s1.heap.objs.size := by simpa using hb
  subst e
  exact I1.fpOk (Nat.le_refl _) (I1.hok.fresh (Nat.le_refl _))
end
/-- the loop over it: by what is left of the text -/
theorem for_str {x : Str} {g : TG} {tb : TS} {De : Ends} {σ : L2.St} {H : Hp} (Pv : List Nat → List Nat → L2.St → Hp → Prop) (h0 : Pv [] x.cps.toList σ H)
    (step : ∀ a c r σ H, x.cps.toList = a ++ c :: r → Pv a (c :: r) σ H → g (.str ⟨#[c]⟩) σ H fun σ2 H2 => tb { De with nx := Pv (a ++ [c]) r, ct := Pv (a ++ [c]) r, bk := De.nx } σ2 H2) (last : ∀ σ H, Pv x.cps.toList [] σ H → De.nx σ H) :
    ∃ W : Nat → Nat → L2.St → Hp → Prop, (∃ m, W 0 m σ H) ∧ ∀ i m σ H, W i m σ H →
      ((Its x).stop i H ∧ De.nx σ H) ∨ ((Its x).go i H ∧ ∃ N : L2.St → Hp → Prop, (∀ σ' H', N σ' H' → ∃ m', m' < m ∧ W (i + 1) m' σ' H') ∧ ∀ v H', (Its x).yld i H v H' → g v σ H' fun σ2 H2 => tb { De with nx := N, ct := N, bk := De.nx } σ2 H2) := by
  have hsz : x.cps.toList.length = x.cps.size := by simp
  refine ⟨fun i m σ H => m = x.cps.size - i ∧ i ≤ x.cps.size ∧ Pv (x.cps.toList.take i) (x.cps.toList.drop i) σ H, ⟨x.cps.size, by simp, Nat.zero_le _, by simpa using h0⟩, ?_⟩
  rintro i m σ H ⟨rfl, hle, pv⟩
  by_cases hlt : i < x.cps.size
  · have hl : i < x.cps.toList.length := by omega
    have e1 : x.cps.toList.drop i = x.cps.toList[i] :: x.cps.toList.drop (i + 1) := List.drop_eq_getElem_cons hl
    have e2 : x.cps.toList.take (i + 1) = x.cps.toList.take i ++ [x.cps.toList[i]] := by rw [List.take_add_one, List.getElem?_eq_getElem hl]; rfl
    refine .inr ⟨hlt, Pv (x.cps.toList.take (i + 1)) (x.cps.toList.drop (i + 1)), fun σ' H' p' => ⟨x.cps.size - (i + 1), by omega, rfl, hlt, p'⟩, ?_⟩
    rintro v H' ⟨rfl, c, hc, rfl⟩
    rw [List.getElem?_eq_getElem hl] at hc
    obtain rfl := Option.some.inj hc
    rw [e2]
    rw [e1] at pv
    exact step _ _ _ σ _ (by rw [← e1, List.take_append_drop]) pv
  · have : i = x.cps.size := by omega
    subst this
    refine .inl ⟨Nat.le_refl _, last σ H ?_⟩
    rwa [← hsz, List.take_length, List.drop_length] at pv

/-! ### o.replace('y', 'z'), where a token is there -/
inductive ReplR (y z : Str) (Q : VK) (x : V) (H : Hp) : Prop
  | mk (t : Str) (e : x = .str t) (hl : t.length ≤ 1048576) (q : Q (.str (Txt.replace t y z)) H) : ReplR y z Q x H
def tRepl (y z : Str) (to : TE) : TE := fun σ H Q => to σ H (ReplR y z Q)
section
variable {X : Cx} {o : Expr} {to : TE}
theorem pe_replace {y z : Str} {j k : Nat} {p q apos cpos : Pos} (ho : PE1 X o to) (hyz : (y == z) = false := by decide +kernel) (hz : z.length ≤ 14 := by decide +kernel)
    (hbase : attributeBase o "replace" X.env (eval o X.env) = eval o X.env := by rfl)
    (hfew : ((backTo cpos (starEach [.Constant (.str y) j p, .Constant (.str z) k q] X.env)).all (fun x => !x.1) && (backToKw cpos (keywordEach [] X.env)).all (fun x => x.1.isSome)
      && decide ([Expr.Constant (.str y) j p, Expr.Constant (.str z) k q].length + ([] : List Keyword).length + (if ([] : List Keyword).isEmpty then 0 else 1) < 30)) = true := by rfl)
    (hline : (apos.endLine == cpos.line) = true := by rfl) : PE1 X (.Call (.Attribute o "replace" apos) [.Constant (.str y) j p, .Constant (.str z) k q] [] cpos) (tRepl y z to) := by
  intro pins s σ H Q I h0 h
  refine wpAny_Call_method_late hbase hfew hline rfl (tkd h0 (ho pins s σ H _ I h0 h) fun v s1 h01 ⟨x, H1, I1, r1, q1⟩ => ?_)
  obtain ⟨t, rfl, hl, q1⟩ := q1
  obtain ⟨tk, rfl⟩ := r1
  refine ⟨"str", _, F.plainAttrs_str, F.slot_str_replace, F.type_str_replace, typeIs_str _ _ _, (fun _ e => nomatch e), ?_⟩
  refine Calls.callWith_builtin rfl (Calls.evalArgs_plain ?_)
  refine Calls.spliced_cons (Calls.Constant_str (k := j) (pos := p) (Calls.spliced_cons (Calls.Constant_str (k := k) (pos := q) (Calls.spliced_nil ?_))))
  refine SC.replaceW (Nat.ne_of_gt h01) (Nat.succ_ne_zero _) (Nat.ne_of_lt (Nat.lt_succ_self _)) hyz hl hz fun t' tk => ?_
  exact ⟨.str _, H1, I1.tok _, ⟨_, rfl⟩, q1⟩
theorem pe_bm01 {T id : String} {name : Str} {r : V → List V → Hp → VK → Prop} {apos cpos : Pos} (pa : PlainAttrs T) (slot : Slot T name id) (hty : typeOf (.builtin id) = pure (.type "method_descriptor")) (hm : MtR X id r) (ho : PE1 X o to)
    (hbase : attributeBase o name X.env (eval o X.env) = eval o X.env := by rfl) (hline : (apos.endLine == cpos.line) = true := by rfl) : PE1 X (.Call (.Attribute o name apos) [] [] cpos) (tBM0 X.K T r to) := by
  intro pins s σ H Q I h0 h
  refine wpAny_Call_method0_late hbase hline (thn (ho pins s σ H _ I h0 h) fun v s1 ⟨x, H1, I1, r1, ty, q1⟩ => ?_)
  obtain ⟨h1, h2⟩ := tyV_is I1 r1 ty
  exact ⟨T, id, pa, slot, hty, h1, h2, Calls.callWith_builtin rfl (PySem.evalArgs_none (hm pins s1 σ H1 x [] v [] Q I1 r1 .nil q1))⟩
end

/-! ### split(), join -/
theorem strs_vals : ∀ (tk : Nat) (xs : List Str), Vals (xs.map V.str) (strsFrom tk xs)
  | _, [] => .nil
  | tk, x :: xs => .cons ⟨tk, rfl⟩ (strs_vals (tk + 1) xs)
inductive SplitR (x : V) (vs : List V) (H : Hp) (Q : VK) : Prop
  | mk (z : Str) (e : x = .str z) (e' : vs = []) (hl : z.length ≤ 1048576) (q : ∀ p, H p = none → Q (.ref p) (upd H p (.lst ((PySem.wordsOf z).map V.str)))) : SplitR x vs H Q
theorem mt_split {X : Cx} : MtR X "str.split" SplitR := by
  intro pins s σ H x xs v us Q I rx rs h
  obtain ⟨z, rfl, rfl, hl, q⟩ := h
  obtain ⟨t, rfl⟩ := rx
  cases rs
  have e24 : sizeLine = 16777216 := by decide
  have hn : (spaceWords z (z.length + 1)).length ≤ sizeLine := by
    have h1 := (StrLaws.sw_weight z).1
    have h2 := StrLaws.len_le_wsum (spaceWords z (z.length + 1))
    omega
  refine call_meets F.slot_str_split (typeIs_str _ _ _) F.entry_str_split (F.args_str_split_1 _) (meets_str_split_space z t (by omega) hn) ?_
  have hw : (PySem.wordsOf z).length = (spaceWords z (z.length + 1)).length := by rw [PySem.wordsOf, List.length_map]
  show if _ then _ else _
  split
  · rename_i he
    have he := eq_of_beq he
    have e : PySem.wordsOf z = [z] := by
      rw [PySem.wordsOf, he]
      show [strSub z 0 z.length] = [z]
      congr 1
      refine Str.ext' (Array.toList_inj.mp ?_)
      rw [StrLaws.strSub_toList, List.drop_zero, List.take_of_length_le (by simp [Str.length])]
    rw [e] at q
    exact ⟨.ref s.heap.objs.size, _, I.lnew (ys := [V.str z]) (its := [Value.str z t]) (t' := s.toks) (.cons ⟨t, rfl⟩ .nil) (show 1 ≤ sizeLine by decide), rfl, q _ I.fresh⟩
  · exact ⟨.ref s.heap.objs.size, _, I.lnew (strs_vals _ _) (by rw [List.length_map, hw]; exact hn), rfl, q _ I.fresh⟩
theorem vals_strs : ∀ {ts : List Str} {us : List Value}, Vals (ts.map V.str) us → ∃ l : List (Str × Tok), us = strValues l ∧ l.map (·.1) = ts
  | [], _, .nil => ⟨[], rfl, rfl⟩
  | t :: ts, _, .cons r rs => by
    obtain ⟨k, rfl⟩ := r
    obtain ⟨l, rfl, h⟩ := vals_strs rs
    exact ⟨(t, k) :: l, rfl, by rw [List.map_cons, h]⟩
inductive JoinR (K : PySem.W.Frag) (x : V) (vs : List V) (H : Hp) (Q : VK) : Prop
  | mk (z : Str) (a : Addr) (ts : List Str) (e : x = .str z) (e' : vs = [.ref a]) (h : SqL K H a (ts.map V.str)) (hok : JoinOk z ts = true) (q : Q (.str (Txt.join z ts)) H) : JoinR K x vs H Q
theorem mt_join {X : Cx} : MtR X "str.join" (JoinR X.K) := by
  intro pins s σ H x xs v us Q I rx rs h
  obtain ⟨z, a, ts, rfl, rfl, hs, hok, q⟩ := h
  obtain ⟨t, rfl⟩ := rx
  obtain ⟨u, rfl, r⟩ := rs.one
  cases (show u = Value.ref a from r)
  obtain ⟨its, rv, pl, hz⟩ := I.list hs
  obtain ⟨l, rfl, hl⟩ := vals_strs rv
  exact SC.join pl.isList hl hok fun t' k => ⟨.str _, H, I.tok _, ⟨_, rfl⟩, q⟩

/-! ### slices of texts -/
def cutS (z : Str) (lo hi : Option Int) : Str := ⟨((z.cps.toList.drop (HT.sIx z.length 0 lo)).take (HT.sIx z.length z.length hi - HT.sIx z.length 0 lo)).toArray⟩
inductive SlS (x : V) (lo hi : Option Int) (H : Hp) (Q : VK) : Prop
  | mk (z : Str) (e : x = .str z) (hl : z.length ≤ sizeLine) (q : Q (.str (cutS z lo hi)) H) : SlS x lo hi H Q
theorem picked_cut (z : Str) (lo hi : Option Int) : strSliceIndices lo hi 1 z.length = (List.range (HT.sIx z.length z.length hi - HT.sIx z.length 0 lo)).map (HT.sIx z.length 0 lo + ·) := by
  rw [← sliceRange_one]
  have p1 : ((1 : Int) > 0) := by decide
  have e1 : ∀ (i : Int), max 0 (min (if i < 0 then i + (z.length : Int) else i) (z.length : Int)) = (((if i < 0 then (i + (z.length : Int)).toNat else min i.toNat z.length) : Nat) : Int) := by
    intro i
    by_cases h : i < 0
    · rw [if_pos h, if_pos h]; omega
    · rw [if_neg h, if_neg h]; omega
  cases lo with
  | none =>
    cases hi with
    | none => simp only [strSliceIndices, p1, if_true]; rfl
    | some j => simp only [strSliceIndices, p1, if_true, e1]; rfl
  | some i =>
    cases hi with
    | none => simp only [strSliceIndices, p1, if_true, e1]; rfl
    | some j => simp only [strSliceIndices, p1, if_true, e1]; rfl
theorem sl_str {X : Cx} : SlR X SlS := by
  intro pins s σ H x v vl vu lo hi sl Q I rx hs pl pu h
  obtain ⟨z, rfl, hl, q⟩ := h
  obtain ⟨t, rfl⟩ := rx
  refine ⟨"str", _, F.slot_str_getitem.lookup, typeIs_str _ _ _, ?_⟩
  have part : ∀ {u : Value} {i : Option Int}, IsPart u i → ∃ p : Option (Int × Tok), u = partValue p ∧ p.map (·.1) = i := by
    intro u i h
    cases h with
    | none => exact ⟨none, rfl, rfl⟩
    | int i t => exact ⟨some (i, t), rfl, rfl⟩
  obtain ⟨l, rfl, el⟩ := part pl
  obtain ⟨u, rfl, eu⟩ := part pu
  refine wpAny_getItem_str_slice (l := l) (u := u) (st := none) hs rfl ?_
  have e : slicePicked z l u none = (List.range (HT.sIx z.length z.length hi - HT.sIx z.length 0 lo)).map (HT.sIx z.length 0 lo + ·) := by
    unfold slicePicked
    rw [el, eu]
    exact picked_cut z lo hi
  have e2 : (⟨((slicePicked z l u none).filterMap (z.cps[·]?)).toArray⟩ : Str) = cutS z lo hi := by
    rw [e, pick_run]; rfl
  unfold sliceMade
  split
  · rename_i hc
    have hc : (slicePicked z l u none).length = z.length := by
      have := ((Bool.and_eq_true _ _).mp hc).2
      exact eq_of_beq this
    have e3 : cutS z lo hi = z := by
      rw [e, List.length_map, List.length_range] at hc
      have ha : HT.sIx z.length 0 lo = 0 ∨ z.length = 0 := by
        have hb : HT.sIx z.length z.length hi ≤ z.length ∨ True := .inr trivial
        have : HT.sIx z.length z.length hi ≤ z.length := by
          cases hi with
          | none => exact Nat.le_refl _
          | some i =>
            show (if i < 0 then (i + (z.length : Int)).toNat else min i.toNat z.length) ≤ z.length
            split <;> omega
        omega
      refine Str.ext' (Array.toList_inj.mp ?_)
      have hz : z.cps.toList.length = z.length := by simp [Str.length]
      rcases ha with ha | ha
      · unfold cutS
        rw [ha] at hc ⊢
        rw [Nat.sub_zero] at hc ⊢
        rw [hc, List.drop_zero, List.take_of_length_le (by omega)]
      · have h0 : z.cps.toList = [] := List.length_eq_zero_iff.mp (by omega)
        unfold cutS
        rw [h0]; simp
    rw [e3] at q
    exact ⟨.str z, H, I, ⟨t, rfl⟩, q⟩
  · rw [e2]
    refine ⟨?_, .str _, H, I.tok _, ⟨_, rfl⟩, q⟩
    show ((z.cps.toList.drop _).take _).toArray.size ≤ sizeLine
    have hz : z.cps.toList.length = z.length := by simp [Str.length]
    simp only [List.size_toArray, List.length_take, List.length_drop]
    omega
theorem cutS_mem {z : Str} {lo hi : Option Int} {c : Nat} (h : c ∈ (cutS z lo hi).cps.toList) : c ∈ z.cps.toList := by
  have h : c ∈ (z.cps.toList.drop (HT.sIx z.length 0 lo)).take (HT.sIx z.length z.length hi - HT.sIx z.length 0 lo) := h
  exact List.mem_of_mem_drop (List.mem_of_mem_take h)
theorem cutS_len (z : Str) (lo hi : Option Int) : (cutS z lo hi).length ≤ z.length := by
  show ((z.cps.toList.drop _).take _).toArray.size ≤ _
  have hz : z.cps.toList.length = z.length := by simp [Str.length]
  simp only [List.size_toArray, List.length_take, List.length_drop]
  omega

/-! ### f'..{x!r}' of a text -/
theorem pf_repr {X : Cx} {i : Nat} {x : Str} {p pos : Pos} (hv : PE X (.Name x p) (tVar i)) : PF X (.FormattedValue (.Name x p) 114 none pos) (fun σ _ => ∃ z, σ[i]? = some (some (.str z)) ∧ z.length ≤ 100000 ∧ asc z) 1000002 := by
  intro pins s σ H I ⟨z, hi, hl, ha⟩
  refine wpAny_FormattedValue_repr (thn (hv pins s σ H (fun v H' => v = .str z ∧ H' = H) I ⟨_, hi, rfl, rfl⟩) fun u s1 ⟨v, H1, I1, r1, e1, e2⟩ => ?_)
  subst e1 e2
  obtain ⟨t, rfl⟩ := (show ∃ t, u = Value.str z t from r1)
  have h1 := StrLaws.reprText_len z fun c hc => Nat.lt_of_lt_of_le (ha c hc) (by decide)
  have h2 : (reprText z).length ≤ sizeLine := by
    have : sizeLine = 16777216 := by decide
    omega
  refine wpAny_pyReprObj_str ?_ h2
  refine formatField_str (fun t' tk => ⟨_, _, rfl, by omega, I1.tok _⟩) h2
end TX
namespace TX
open PySem PySem.Builtin PySem.Builtin.Str PySem.StrLaws TT
def f1 (c : Nat) : List Nat := if c = 40 then [32, 40, 32] else [c]
def f2 (c : Nat) : List Nat := if c = 41 then [32, 41, 32] else [c]
theorem rep1 : RepF [40] [32, 40, 32] (fun l => l.flatMap f1) := ⟨rfl, fun r => rfl, fun c r h => by
  show (c :: r).flatMap f1 = _
  rw [List.flatMap_cons, f1, if_neg]
  · rfl
  · rintro rfl
    exact h ⟨r, rfl⟩⟩
theorem rep2 : RepF [41] [32, 41, 32] (fun l => l.flatMap f2) := ⟨rfl, fun r => rfl, fun c r h => by
  show (c :: r).flatMap f2 = _
  rw [List.flatMap_cons, f2, if_neg]
  · rfl
  · rintro rfl
    exact h ⟨r, rfl⟩⟩
theorem low_space : ∀ c, low c = true → Unicode.isSpace c = false := by
  have key : ∀ c ∈ List.range' 97 26, Unicode.isSpace c = false := by decide +kernel
  intro c h
  refine key c (List.mem_range'_1.mpr ?_)
  simp only [low, Bool.and_eq_true, decide_eq_true_eq] at h
  omega
theorem sp32 : Unicode.isSpace 32 = true := by decide +kernel
theorem sp40 : Unicode.isSpace 40 = false := by decide +kernel
theorem sp41 : Unicode.isSpace 41 = false := by decide +kernel
theorem len_mk (w : List Nat) : (⟨w.toArray⟩ : Str).length = w.length := by simp [Str.length]
theorem step_blank (ws : List Str) (w : List Nat) : KWd.step (ws, ⟨w.toArray⟩) 32 = (ws ++ flush w, ⟨[].toArray⟩) := by
  unfold KWd.step flush
  rw [if_pos sp32]
  dsimp only
  rw [len_mk]
  by_cases h : w = []
  · subst h
    simp
  · rw [if_neg h, if_neg (by intro e; exact h (List.length_eq_zero_iff.mp e))]
    rfl
theorem step_sign {c : Nat} (h : Unicode.isSpace c = false) (ws : List Str) (w : List Nat) : KWd.step (ws, ⟨w.toArray⟩) c = (ws, ⟨(w ++ [c]).toArray⟩) := by
  unfold KWd.step
  rw [if_neg (by rw [h]; exact Bool.false_ne_true)]
  refine Prod.ext rfl ?_
  refine Str.ext' ?_
  show w.toArray ++ #[c] = _
  simp
theorem step_par {c : Nat} (h : Unicode.isSpace c = false) (ws : List Str) (w : List Nat) : KWd.step (KWd.step (KWd.step (ws, ⟨w.toArray⟩) 32) c) 32 = (ws ++ (flush w ++ [⟨#[c]⟩]), ⟨[].toArray⟩) := by
  rw [step_blank, step_sign h, step_blank, List.nil_append, List.append_assoc]
  rfl
theorem fin_scan : ∀ (l : List Nat) (ws : List Str) (w : List Nat), (∀ c ∈ l, sgn c = true) → KWd.fin (((l.flatMap f1).flatMap f2).foldl KWd.step (ws, ⟨w.toArray⟩)) = ws ++ spl w l
  | [], ws, w, _ => by
    show KWd.fin (ws, ⟨w.toArray⟩) = ws ++ flush w
    unfold KWd.fin flush
    dsimp only
    rw [len_mk]
    by_cases h : w = []
    · subst h
      simp
    · rw [if_neg h, if_neg (by intro e; exact h (List.length_eq_zero_iff.mp e))]
  | c :: r, ws, w, h => by
    have ih := fun ws w => fin_scan r ws w fun d hd => h d (List.mem_cons_of_mem _ hd)
    have hc := h c List.mem_cons_self
    rw [List.flatMap_cons, List.flatMap_append, List.foldl_append]
    by_cases h40 : c = 40
    · subst h40
      show KWd.fin (((r.flatMap f1).flatMap f2).foldl KWd.step (KWd.step (KWd.step (KWd.step (ws, ⟨w.toArray⟩) 32) 40) 32)) = _
      rw [step_par sp40, ih, spl, if_pos rfl]
      simp
    · by_cases h41 : c = 41
      · subst h41
        show KWd.fin (((r.flatMap f1).flatMap f2).foldl KWd.step (KWd.step (KWd.step (KWd.step (ws, ⟨w.toArray⟩) 32) 41) 32)) = _
        rw [step_par sp41, ih, spl, if_neg (by decide), if_pos rfl]
        simp
      · have e : (f1 c).flatMap f2 = [c] := by rw [f1, if_neg h40]; simp [f2, h41]
        rw [e]
        show KWd.fin (((r.flatMap f1).flatMap f2).foldl KWd.step (KWd.step (ws, ⟨w.toArray⟩) c)) = _
        by_cases h32 : c = 32
        · subst h32
          rw [step_blank, ih, spl, if_neg (by decide), if_neg (by decide), if_pos rfl]
          simp
        · have hl : low c = true := by simpa [sgn, h40, h41, h32] using hc
          rw [step_sign (low_space c hl), ih, spl_low hl]
theorem words_line {z y1 z1 y2 z2 : Str} (h1 : y1 = ⟨#[40]⟩) (h2 : z1 = ⟨#[32, 40, 32]⟩) (h3 : y2 = ⟨#[41]⟩) (h4 : z2 = ⟨#[32, 41, 32]⟩) (h : ∀ c ∈ z.cps.toList, sgn c = true) :
    PySem.wordsOf (Txt.replace (Txt.replace z y1 z1) y2 z2) = spl [] z.cps.toList := by
  subst h1 h2 h3 h4
  have e1 := replace_eq (x := z) (y := ⟨#[40]⟩) (z := ⟨#[32, 40, 32]⟩) rep1 (by decide)
  have e2 := replace_eq (x := Txt.replace z ⟨#[40]⟩ ⟨#[32, 40, 32]⟩) (y := ⟨#[41]⟩) (z := ⟨#[32, 41, 32]⟩) rep2 (by decide)
  have e3 := KWd.wordsOf_scan (Txt.replace (Txt.replace z ⟨#[40]⟩ ⟨#[32, 40, 32]⟩) ⟨#[41]⟩ ⟨#[32, 41, 32]⟩)
  refine Eq.trans e3 ?_
  unfold KWd.scan
  rw [e2, e1]
  exact fin_scan _ [] [] h
theorem rep_len1 {z y1 z1 : Str} (h1 : y1 = ⟨#[40]⟩) (h2 : z1 = ⟨#[32, 40, 32]⟩) : (Txt.replace z y1 z1).length ≤ 3 * z.length := by
  subst h1 h2
  have e1 := replace_eq (x := z) (y := ⟨#[40]⟩) (z := ⟨#[32, 40, 32]⟩) rep1 (by decide)
  have h : ∀ l : List Nat, (l.flatMap f1).length ≤ 3 * l.length := by
    intro l
    induction l with
    | nil => exact Nat.le_refl _
    | cons c r ih =>
      rw [List.flatMap_cons, List.length_append, List.length_cons, f1]
      split <;> simp only [List.length_cons, List.length_nil] <;> omega
  have h2 := congrArg List.length e1
  have h3 := h z.cps.toList
  have e : ∀ x : Str, x.length = x.cps.toList.length := fun x => by simp [Str.length]
  rw [e, e, h2]
  exact h3
theorem rep_len2 {z y1 z1 : Str} (h1 : y1 = ⟨#[41]⟩) (h2 : z1 = ⟨#[32, 41, 32]⟩) : (Txt.replace z y1 z1).length ≤ 3 * z.length := by
  subst h1 h2
  have e1 := replace_eq (x := z) (y := ⟨#[41]⟩) (z := ⟨#[32, 41, 32]⟩) rep2 (by decide)
  have h : ∀ l : List Nat, (l.flatMap f2).length ≤ 3 * l.length := by
    intro l
    induction l with
    | nil => exact Nat.le_refl _
    | cons c r ih =>
      rw [List.flatMap_cons, List.length_append, List.length_cons, f2]
      split <;> simp only [List.length_cons, List.length_nil] <;> omega
  have h2 := congrArg List.length e1
  have h3 := h z.cps.toList
  have e : ∀ x : Str, x.length = x.cps.toList.length := fun x => by simp [Str.length]
  rw [e, e, h2]
  exact h3
theorem flush_len (w : List Nat) : (flush w).length ≤ 1 := by unfold flush; split <;> simp
theorem spl_len : ∀ (l w : List Nat), (spl w l).length ≤ 2 * l.length + 1
  | [], w => flush_len w
  | c :: r, w => by
    have h1 := flush_len w
    have h2 := spl_len r []
    have h3 := spl_len r (w ++ [c])
    rw [spl]
    split
    · simp only [List.length_append, List.length_cons]; omega
    · split
      · simp only [List.length_append, List.length_cons]; omega
      · split
        · simp only [List.length_append, List.length_cons]; omega
        · simp only [List.length_cons]; omega
/-- all that fits is a sign of a line -/
theorem chk_sgn : ∀ (l : List Nat) (p : Nat) (d : Int), chk p d l = true → ∀ c ∈ l, sgn c = true
  | [], _, _, _, c, h => by cases h
  | a :: r, p, d, h, c, hc => by
    rw [chk, Bool.and_eq_true, Bool.and_eq_true] at h
    rcases List.mem_cons.mp hc with rfl | hc
    · by_cases hl : low c = true
      · simp [sgn, hl]
      · have h1 := h.1
        rw [kind_not hl] at h1
        have hk : c ≠ 97 := by rintro rfl; exact hl rfl
        simp only [okL, Bool.or_eq_true, Bool.and_eq_true, beq_iff_eq] at h1
        simp only [sgn, Bool.or_eq_true, beq_iff_eq]
        omega
    · exact chk_sgn r _ _ h.2.2 c hc
end TX
namespace TX
open PySem PySem.Builtin PySem.Builtin.Str PySem.StrLaws TT
/-! ### the pile of _law_line_of: trees, and brackets to be closed (none) -/
def sOut : Bool → List (Option Tr) → List Nat
  | _, [] => []
  | _, none :: r => 41 :: sOut true r
  | b, some t :: r => (if b = true then [32] else []) ++ (txt t ++ sOut true r)
def nb (x : List Nat) : Bool := match x.getLast? with
  | none => false
  | some c => c != 40
def wt : List (Option Tr) → Nat
  | [] => 0
  | none :: r => 1 + wt r
  | some t :: r => 2 * t.knots + wt r
def itemD : Option Tr → D
  | none => .str ⟨#[41]⟩
  | some t => t.d
theorem sOut_map : ∀ (b : Bool) (ts : List Tr) (r : List (Option Tr)), sOut b (ts.map some ++ r) = txts b ts ++ sOut (b || !ts.isEmpty) r
  | b, [], r => by simp [txts]
  | b, t :: ts, r => by
    rw [List.map_cons, List.cons_append, sOut, sOut_map true ts r, txts]
    simp
theorem wt_append : ∀ (a b : List (Option Tr)), wt (a ++ b) = wt a + wt b
  | [], b => by simp [wt]
  | none :: a, b => by rw [List.cons_append, wt, wt, wt_append a b]; omega
  | some t :: a, b => by rw [List.cons_append, wt, wt, wt_append a b]; omega
theorem wt_map : ∀ (ts : List Tr), wt (ts.map some) = 2 * knotsOf ts
  | [] => rfl
  | t :: ts => by rw [List.map_cons, wt, wt_map ts, knotsOf]; omega
theorem len_wt : ∀ (us : List (Option Tr)), us.length ≤ wt us
  | [] => Nat.le_refl _
  | none :: r => by have := len_wt r; rw [wt, List.length_cons]; omega
  | some t :: r => by have := len_wt r; have := knots_eq t; rw [wt, List.length_cons]; omega
theorem nb_snoc (x : List Nat) (c : Nat) : nb (x ++ [c]) = (c != 40) := by simp [nb]
theorem nb_word {x m : List Nat} (h : Wrd m) : nb (x ++ m) = true := by
  obtain ⟨hn, hl⟩ := h
  obtain ⟨a, c, rfl⟩ : ∃ a c, m = a ++ [c] := ⟨m.dropLast, m.getLast hn, (List.dropLast_concat_getLast hn).symm⟩
  have := hl c (by simp)
  simp only [low, Bool.and_eq_true, decide_eq_true_eq] at this
  rw [← List.append_assoc, nb_snoc, bne_iff_ne]
  omega
/-- a bracket comes off the pile -/
theorem sOut_close {x : List Nat} {us : List (Option Tr)} {l : List Nat} (h : x ++ sOut (nb x) (none :: us) = l) : (x ++ [41]) ++ sOut (nb (x ++ [41])) us = l := by
  rw [nb_snoc, ← h, sOut]
  simp
/-- a tree comes off the pile -/
theorem sOut_tree {x : List Nat} {m : Str} {ks : List Tr} {us : List (Option Tr)} {l : List Nat} (h : x ++ sOut (nb x) (some (.node m ks) :: us) = l) (hm : Wrd m.cps.toList) :
    (ks = [] → (x ++ (if nb x = true then [32] else []) ++ m.cps.toList) ++ sOut (nb (x ++ (if nb x = true then [32] else []) ++ m.cps.toList)) us = l) ∧
    (ks ≠ [] → (x ++ (if nb x = true then [32] else []) ++ m.cps.toList ++ [40]) ++ sOut (nb (x ++ (if nb x = true then [32] else []) ++ m.cps.toList ++ [40])) (ks.map some ++ none :: us) = l) := by
  rw [sOut] at h
  constructor
  · rintro rfl
    rw [nb_word hm, ← h, txt]
    simp
  · intro hk
    rw [nb_snoc, ← h, txt_node _ hk, sOut_map]
    simp [sOut]
theorem mk_app (x : List Nat) (m : Str) : (⟨x.toArray⟩ : Str) ++ m = ⟨(x ++ m.cps.toList).toArray⟩ := by
  refine Str.ext' (Array.toList_inj.mp ?_)
  rw [Str.cps_append, Array.toList_append]
theorem reps_app {G : L2.Hp} {vs ws : List L2.V} {ds es : List D} (a : Reps G vs ds) (b : Reps G ws es) : Reps G (vs ++ ws) (ds ++ es) := a.append b
theorem reps_rev {G : L2.Hp} : ∀ {vs : List L2.V} {ds : List D}, Reps G vs ds → Reps G vs.reverse ds.reverse
  | _, _, .nil => .nil
  | _, _, .cons r t => by
    rw [List.reverse_cons, List.reverse_cons]
    exact (reps_rev t).append (.cons r .nil)
end TX
namespace TX
open PySem PySem.Builtin PySem.Builtin.Str PySem.StrLaws TT
/-! ### texts of ASCII no longer than n -/
def Sm (n : Nat) (z : Str) : Prop := asc z ∧ z.length ≤ n
theorem Sm.mono {n m : Nat} {z : Str} (h : Sm n z) (l : n ≤ m) : Sm m z := ⟨h.1, Nat.le_trans h.2 l⟩
theorem Sm.app {n m : Nat} {x y : Str} (a : Sm n x) (b : Sm m y) : Sm (n + m) (x ++ y) := by
  refine ⟨fun c hc => ?_, by rw [Str.length_append]; exact Nat.add_le_add a.2 b.2⟩
  rw [Str.cps_append, Array.toList_append, List.mem_append] at hc
  rcases hc with hc | hc
  · exact a.1 c hc
  · exact b.1 c hc
theorem Sm.cut {n : Nat} {z : Str} (h : Sm n z) (lo hi : Option Int) : Sm n (cutS z lo hi) := ⟨fun c hc => h.1 c (cutS_mem hc), Nat.le_trans (cutS_len z lo hi) h.2⟩
theorem Sm.one {c : Nat} (h : c < 128) : Sm 1 ⟨#[c]⟩ := ⟨fun d hd => by
  have : d = c := by simpa using hd
  omega, Nat.le_refl _⟩
theorem Sm.dec {n : Nat} {z : Str} (h : (z.cps.toList.all (fun c => decide (c < 128)) && decide (z.length ≤ n)) = true) : Sm n z := by
  rw [Bool.and_eq_true, List.all_eq_true, decide_eq_true_iff] at h
  exact ⟨fun c hc => of_decide_eq_true (h.1 c hc), h.2⟩
theorem sep0_eq : Str.ofString "" = Str.empty := by decide +kernel
theorem Sm.join {k : Nat} : ∀ (ts : List Str), (∀ t ∈ ts, Sm k t) → Sm (k * ts.length) (Str.join (Str.ofString "") ts)
  | [], _ => ⟨(fun c hc => nomatch hc), Nat.zero_le _⟩
  | [x], h => by
    show Sm (k * 1) x
    rw [Nat.mul_one]
    exact h x List.mem_cons_self
  | x :: y :: r, h => by
    have ih := Sm.join (y :: r) fun t ht => h t (List.mem_cons_of_mem _ ht)
    show Sm _ (x ++ Str.ofString "" ++ Str.join (Str.ofString "") (y :: r))
    rw [sep0_eq, Str.append_empty, ← sep0_eq]
    have := (h x List.mem_cons_self).app ih
    refine this.mono ?_
    simp only [List.length_cons, Nat.mul_add, Nat.mul_one]
    omega
theorem at_str {z : Str} (n : Int) (hz : 0 < z.length) : ∃ c, L2.atI z.cps.toList (n % (z.length : Int)) = some c ∧ c ∈ z.cps.toList := by
  have h1 : 0 ≤ n % (z.length : Int) := Int.emod_nonneg _ (by omega)
  have h2 : n % (z.length : Int) < (z.length : Int) := Int.emod_lt_of_pos _ (by omega)
  have hl : z.cps.toList.length = z.length := by simp [Str.length]
  obtain ⟨j, hj⟩ := Int.eq_ofNat_of_zero_le h1
  rw [hj] at h2 ⊢
  have hlt : j < z.cps.toList.length := by omega
  exact ⟨z.cps.toList[j], L2.atI_nat (List.getElem?_eq_getElem hlt), List.getElem_mem hlt⟩
mutual
theorem txt_le : ∀ t : Tr, t.words → (txt t).length + 1 ≤ 31 * t.knots
  | .node m ks, h => by
    rw [Tr.words] at h
    have h1 := txts_le false ks h.2
    have h2 : m.cps.toList.length ≤ 28 := by
      have := h.1.2.1
      simpa [Str.length] using this
    rw [txt, Tr.knots]
    split
    · simp only [List.append_nil]; omega
    · simp only [List.length_append, List.length_cons, List.length_nil]; omega
theorem txts_le : ∀ (b : Bool) (ts : List Tr), TT.wordsOf ts → (txts b ts).length ≤ 31 * knotsOf ts
  | _, [], _ => Nat.zero_le _
  | b, t :: ts, h => by
    rw [TT.wordsOf] at h
    have h1 := txt_le t h.1
    have h2 := txts_le true ts h.2
    rw [txts, knotsOf]
    have : (if b = true then [32] else ([] : List Nat)).length ≤ 1 := by split <;> simp
    simp only [List.length_append]
    omega
end
mutual
theorem words_good : ∀ t : Tr, t.words → good t
  | .node m ks, h => by
    rw [Tr.words] at h
    rw [good]
    refine ⟨⟨fun e => ?_, fun c hc => ?_⟩, words_goods ks h.2⟩
    · have h1 := h.1.1
      have h2 : m.cps.toList.length = m.length := by simp [Str.length]
      rw [e] at h2
      simp at h2
      omega
    · have := h.1.2.2 c hc
      simp [low, this]
theorem words_goods : ∀ ts : List Tr, TT.wordsOf ts → goods ts
  | [], _ => trivial
  | t :: ts, h => by
    rw [TT.wordsOf] at h
    rw [goods]
    exact ⟨words_good t h.1, words_goods ts h.2⟩
end
theorem sgn_asc {c : Nat} (h : sgn c = true) : c < 128 := by
  simp only [sgn, low, Bool.or_eq_true, Bool.and_eq_true, decide_eq_true_eq, beq_iff_eq] at h
  omega
theorem row_sm {ts : List Tr} (h : TT.wordsOf ts) : Sm (31 * knotsOf ts) ⟨(txts false ts).toArray⟩ := by
  refine ⟨fun c hc => sgn_asc (txts_sgn false ts (words_goods ts h) c (by simpa using hc)), ?_⟩
  rw [len_mk]
  exact txts_le false ts h
theorem reps_strs {G : L2.Hp} : ∀ {vs : List L2.V} {ts : List Str}, Reps G vs (ts.map D.str) → vs = ts.map L2.V.str
  | _, [], .nil => rfl
  | _, t :: ts, .cons (.str _) r => by rw [List.map_cons, reps_strs r]
end TX
namespace TX
open PySem PySem.Spec PyProof.Rows L2 TT
section
variable {X : Cx}
theorem PE.wk {e : Expr} {t t' : TE} (h : PE X e t) (k : ∀ σ H Q, t' σ H Q → t σ H Q) : PE X e t' := fun pins s σ H Q I q => h pins s σ H Q I (k σ H Q q)
/-- a written pair of texts, each ASCII and no longer than 4 -/
inductive IsPair (H : Hp) (v : V) : Prop
  | mk (q : Addr) (a b : Str) (e : v = .ref q) (h : H q = some (.lst [V.str a, V.str b])) (ha : Sm 4 a) (hb : Sm 4 b) : IsPair H v
theorem IsPair.mono {H H' : Hp} {v : V} (s : Same H H') (p : IsPair H v) : IsPair H' v := by
  obtain ⟨q, a, b, e, h, ha, hb⟩ := p
  exact ⟨q, a, b, e, s _ _ h, ha, hb⟩
def tPairs : TA := fun _ H Q => ∀ (H' : Hp) (vs : List V), Same H H' → (∀ v ∈ vs, IsPair H' v) → Q vs H'
def tPairsN (n : Nat) : TA := fun _ H Q => ∀ (H' : Hp) (vs : List V), Same H H' → vs.length = n → (∀ v ∈ vs, IsPair H' v) → Q vs H'
theorem prs_nil : PA X [] (tPairsN 0) := fun pos pins s σ H Q I h => pa_nil pos pins s σ H Q I (h H [] (Same.refl H) rfl fun v hv => nomatch hv)
theorem prs_cons {a b : Str} {j k n : Nat} {p q r : Pos} {es : List Expr} (ha : Sm 4 a) (hb : Sm 4 b) (h : PA X es (tPairsN n)) : PA X (.List [.Constant (.str a) j p, .Constant (.str b) k q] r :: es) (tPairsN (n + 1)) := by
  intro pos pins s σ H Q I hq
  refine pa_cons (te := tLst (tCons (tC (.str a)) (tCons (tC (.str b)) tNil))) (pe_lst (pa_cons pe_str (pa_cons pe_str pa_nil))) h rfl pos pins s σ H Q I ?_
  refine ⟨(by show 2 ≤ sizeLine; decide), fun l hl => ?_⟩
  intro H' vs s1 hn hv
  refine hq H' _ ((same_upd hl).trans s1) (by rw [List.length_cons, hn]) fun v hm => ?_
  rcases List.mem_cons.mp hm with rfl | hm
  · exact ⟨l, a, b, rfl, s1 _ _ upd_same, ha, hb⟩
  · exact hv v hm
end
end TX
namespace PySem
open Sem (wp)
namespace F
theorem owner_rvd : Manifest.owners.lookup (String.ofList ['d', 'e', 's', 'r', 'e', 'v', 'e', 'r'].reverse) = some Manifest.sig_reversed := by kernel_rfl
theorem slot_rvd_next : Slot "reversed" "__next__" "reversed.__next__" :=
  .of (owner := "reversed") (n := "__next__") (by rw [typeLookup_type, builtinLookup_eq_fast]; kernel_rfl) (by decide +kernel) (by decide +kernel) (by decide +kernel)
    (by first | exact .inl (by decide +kernel) | exact .inr (by decide +kernel)) (by rw [isSubtype_type]; kernel_rfl)
theorem entry_rvd_next : entryFor table "reversed.__next__" = some Builtin.«reversed.__next__» := entryFor_of_tree (by kernel_rfl)
theorem args_rvd_next_1 (a : Value) : argsOk "reversed.__next__" ⟨[a], []⟩ := by
  unfold argsOk; rw [signature?_of (id := "reversed.__next__") (n := ['_', '_', 't', 'x', 'e', 'n', '_', '_']) (o := ['d', 'e', 's', 'r', 'e', 'v', 'e', 'r']) (by kernel_rfl) owner_rvd]; kernel_rfl
theorem slot_rvd_iter : Slot "reversed" "__iter__" "reversed.__iter__" :=
  .of (owner := "reversed") (n := "__iter__") (by rw [typeLookup_type, builtinLookup_eq_fast]; kernel_rfl) (by decide +kernel) (by decide +kernel) (by decide +kernel)
    (by first | exact .inl (by decide +kernel) | exact .inr (by decide +kernel)) (by rw [isSubtype_type]; kernel_rfl)
theorem args_rvd_iter_1 (a : Value) : argsOk "reversed.__iter__" ⟨[a], []⟩ := by
  unfold argsOk; rw [signature?_of (id := "reversed.__iter__") (n := ['_', '_', 'r', 'e', 't', 'i', '_', '_']) (o := ['d', 'e', 's', 'r', 'e', 'v', 'e', 'r']) (by kernel_rfl) owner_rvd]; kernel_rfl
theorem entry_rvd_iter : entryFor table "reversed.__iter__" = some Builtin.«dict_keyiterator.__iter__» :=
  entryFor_alias (id' := "dict_keyiterator.__iter__") (by kernel_rfl) (by first | rfl | decide +kernel | (unfold String.splitOn; simp +decide [String.splitOnAux])) (by decide +kernel) (by kernel_rfl)
theorem slot_rvd_hint : Slot "reversed" "__length_hint__" "reversed.__length_hint__" :=
  .of (owner := "reversed") (n := "__length_hint__") (by rw [typeLookup_type, builtinLookup_eq_fast]; kernel_rfl) (by decide +kernel) (by decide +kernel) (by decide +kernel)
    (by first | exact .inl (by decide +kernel) | exact .inr (by decide +kernel)) (by rw [isSubtype_type]; kernel_rfl)
theorem entry_rvd_hint : entryFor table "reversed.__length_hint__" = some Builtin.«reversed.__length_hint__» := entryFor_of_tree (by kernel_rfl)
theorem args_rvd_hint_1 (a : Value) : argsOk "reversed.__length_hint__" ⟨[a], []⟩ := by
  unfold argsOk; rw [signature?_of (id := "reversed.__length_hint__") (n := ['_', '_', 't', 'n', 'i', 'h', '_', 'h', 't', 'g', 'n', 'e', 'l', '_', '_']) (o := ['d', 'e', 's', 'r', 'e', 'v', 'e', 'r']) (by kernel_rfl) owner_rvd]; kernel_rfl
theorem rvd_no_len : typeLookup (.type "reversed") "__len__" = pure none := by rw [typeLookup_type, builtinLookup_eq_fast]; kernel_rfl
theorem tup_no_reversed : typeLookup (.type "tuple") "__reversed__" = pure none := by rw [typeLookup_type, builtinLookup_eq_fast]; kernel_rfl
theorem slot_rvd_init : Slot "reversed" "__init__" "object.__init__" :=
  .of (owner := "object") (n := "__init__") (by rw [typeLookup_type, builtinLookup_eq_fast]; kernel_rfl) (by decide +kernel) (by decide +kernel) (by decide +kernel)
    (by first | exact .inl (by decide +kernel) | exact .inr (by decide +kernel)) (by rw [isSubtype_type]; kernel_rfl)
theorem called_reversed : TypeCalled "reversed" "reversed.__new__" "object.__init__" :=
  ⟨by decide +kernel, by decide +kernel, ⟨_, _, mro_reversed⟩, made_reversed, by decide +kernel, by rw [isSubtype_type]; kernel_rfl, slot_rvd_init⟩
end F
end PySem
namespace PySem
open Sem (wp)
section
variable {prog : Program} {w : World} {A : Around} {E : Value → Shared → Prop} {s : Shared}
def rvdObj (t : Addr) (i : Int) : Obj := { cls := .type "reversed", data := .fields #[.ref t, rawInt i] }
def Heap.IsRvd (h : Heap) (a t : Addr) (i : Int) : Prop := ∃ o, h.get? a = some o ∧ o.cls = .type "reversed" ∧ o.data = .fields #[.ref t, rawInt i]
theorem Heap.IsRvd.typeIs {a t : Addr} {i : Int} (x : s.heap.IsRvd a t i) : s.TypeIs (.ref a) "reversed" := let ⟨o, ho, hc, _⟩ := x; ⟨o, ho, hc⟩
theorem Heap.IsRvd.at {h h' : Heap} {a t : Addr} {i : Int} (x : h.IsRvd a t i) (e : ∀ o, h.get? a = some o → h'.get? a = some o) : h'.IsRvd a t i := let ⟨o, ho, r⟩ := x; ⟨o, e _ ho, r⟩
open PyProof.Rows in
theorem code_reversed_tup {t : Addr} {items : Array Value} {Q₁ : Value → Shared → Prop} (ht : IsTup s.heap t items) (hfit : items.size ≤ sizeLine)
    (h : ∀ tk, Q₁ (.ref s.heap.objs.size) { s with heap := s.heap.push (rvdObj t ((items.size : Int) - 1)), toks := tk }) :
    codeAny (model prog w) A (.call (.builtin "reversed.__new__") ⟨[.type "reversed", .ref t], []⟩) (wants Q₁ E) s := by
  refine codeAny_of_tree ?_
  show wpAny _ A.in1 (do checkBuiltinCall "reversed.__new__" ⟨[.type "reversed", .ref t], []⟩; again (.builtin "reversed.__new__" ⟨[.type "reversed", .ref t], []⟩)) _ _ s
  refine wpAny_bind (wpAny_of_eq (F.newCall_reversed_1 _) (wpAny_pure ⟨plainId_quiet F.plain_reversed_new _, codeAny_builtin F.entry_reversed_new ?_⟩))
  rw [Around.under_plainId F.plain_reversed_new _]
  unfold Builtin.«reversed.__new__»
  refine wpAny_bind (wpAny_of_eq (newClass_reversed _) ?_)
  try dsimp only
  refine wpAny_bind (wpAny_of_eq (a := ()) (by first | rfl | kernel_rfl) ?_)
  refine wpAny_bind (wpAny_of_eq (a := ()) (by first | rfl | kernel_rfl) ?_)
  try dsimp only
  refine wpAny_bind (wpAny_specialOf ht.typeIs F.tup_no_reversed ?_)
  try dsimp only
  refine wpAny_bind ?_
  refine wpAny_bind (wpAny_isInstance (T := "tuple") (b := false) ht.typeIs F.sub_tuple_dict ?_)
  rw [if_neg Bool.false_ne_true]
  refine wpAny_bind (wpAny_specialOf ht.typeIs slot_tuple_getitem.lookup ?_)
  dsimp only
  rw [if_pos (by decide +kernel)]
  refine wpAny_pure ?_
  rw [if_neg (by decide)]
  have e24 : sizeLine = 16777216 := by decide
  refine wpAny_bind (len_tuple ht (by omega) ?_)
  refine wpAny_bind (wpAny_of_eq (a := some (items.size : Int)) rfl ?_)
  dsimp only
  refine wpAny_bind ?_
  unfold Builtin.SmallTypes.newRecord
  exact wpAny_newObj_type (wpAny_pure (h _))
open PyProof.Rows in
theorem call_reversed_tup {t : Addr} {items : Array Value} {Q : Value → Shared → Prop} (ht : IsTup s.heap t items) (hfit : items.size ≤ sizeLine)
    (h : ∀ tk, Q (.ref s.heap.objs.size) { s with heap := s.heap.push (rvdObj t ((items.size : Int) - 1)), toks := tk }) : wpAny (model prog w) A (call (.type "reversed") [.ref t]) Q E s := by
  refine callType_codes (Q₁ := fun obj s₁ => obj = .ref s.heap.objs.size ∧ ∃ tk, s₁ = { s with heap := s.heap.push (rvdObj t ((items.size : Int) - 1)), toks := tk }) F.called_reversed (F.typeCall_reversed_1 _) F.entry_object_init
    (code_reversed_tup ht hfit fun tk => ⟨rfl, tk, rfl⟩) fun obj s₁ h₁ => ?_
  obtain ⟨rfl, tk, rfl⟩ := h₁
  have hT : ({ s with heap := s.heap.push (rvdObj t ((items.size : Int) - 1)), toks := tk } : Shared).TypeIs (.ref s.heap.objs.size) "reversed" := ⟨_, Heap.get?_push_size _ rfl, rfl⟩
  exact ⟨hT, F.args_object_init_2 _ _, object_init_meets F.slot_rvd_init.lookup F.made_reversed (by decide) prog w A.in1 _ _ ⟨hT, rfl, h tk⟩⟩
open PyProof.Rows in
theorem wpAny_pyNext_rvd_item {it t : Addr} {i : Nat} {items : Array Value} {x : Value} {Q : Option Value → Shared → Prop} (hit : s.heap.IsRvd it t (i : Int)) (ht : IsTup s.heap t items) (hfit : items.size ≤ sizeLine) (hx : items[i]? = some x)
    (hQ : ∀ h' tk, h'.IsRvd it t ((i : Int) - 1) → Heap.SameBut it s.heap h' → Q (some x) { s with heap := h', toks := tk }) : wpAny (model prog w) A (pyNext (.ref it)) Q E s := by
  obtain ⟨o, ho, hc, hd⟩ := id hit
  have e24 : sizeLine = 16777216 := by decide
  have hlt : i < items.size := by
    obtain ⟨h1, _⟩ := Array.getElem?_eq_some_iff.mp hx
    exact h1
  unfold pyNext
  refine wpAny_bind (wpAny_attempt (wpAny_callSpecial?_slot (name := Str.ofString "__next__") hit.typeIs F.slot_rvd_next
    (wpAny_call_entry F.slot_rvd_next hit.typeIs F.entry_rvd_next ?_ (F.args_rvd_next_1 _))))
  unfold Builtin.«reversed.__next__»
  refine wpAny_bind (wpAny_of_eq (a := (Value.ref it, [])) rfl ?_)
  try dsimp only
  refine wpAny_bind (wpAny_field ho hd (x := .ref t) rfl ?_)
  refine wpAny_bind (wpAny_field ho hd (x := rawInt (i : Int)) rfl ?_)
  show wpAny _ _ (if (i : Int) < 0 then _ else _) _ _ s
  rw [if_neg (by omega)]
  refine wpAny_bind (wpAny_specialOf ht.typeIs slot_tuple_getitem.lookup ?_)
  rw [if_neg (by decide)]
  refine wpAny_bind (wpAny_mkInt ?_)
  refine wpAny_bind (wpAny_attempt (getItem_tuple ht (by omega) (by omega) (j := i) ?_ hx ?_))
  · rw [seqIndex?]; simp; omega
  dsimp only
  refine wpAny_bind (wpAny_field ho hd (x := rawInt (i : Int)) rfl ?_)
  dsimp only [rawInt]
  refine wpAny_bind (wpAny_setField ho hd (by simp) ?_)
  refine wpAny_pure ⟨x, rfl, wpAny_pure (hQ _ _ ?_ (Heap.SameBut.update ..))⟩
  exact ⟨_, Heap.get?_update_self _ ho (Obj.isFreed_of_fields (Obj.data_mapFields hd _)), (Obj.cls_mapFields ..).trans hc, by
    rw [Obj.data_mapFields hd]; simp [rawInt]⟩
theorem wpAny_pyNext_rvd_end {it t : Addr} {Q : Option Value → Shared → Prop} (hh : A.handled = none) (hit : s.heap.IsRvd it t (-1))
    (hQ : ∀ h', Heap.ExtBut it s.heap h' → Q none { s with heap := h' }) : wpAny (model prog w) A (pyNext (.ref it)) Q E s := by
  obtain ⟨o, ho, hc, hd⟩ := id hit
  unfold pyNext
  refine wpAny_bind (wpAny_attempt (wpAny_callSpecial?_slot (name := Str.ofString "__next__") hit.typeIs F.slot_rvd_next
    (wpAny_call_entry F.slot_rvd_next hit.typeIs F.entry_rvd_next ?_ (F.args_rvd_next_1 _))))
  unfold Builtin.«reversed.__next__»
  refine wpAny_bind (wpAny_of_eq (a := (Value.ref it, [])) rfl ?_)
  try dsimp only
  refine wpAny_bind (wpAny_field ho hd (x := .ref t) rfl ?_)
  refine wpAny_bind (wpAny_field ho hd (x := rawInt (-1)) rfl ?_)
  show wpAny _ _ (if (-1 : Int) < 0 then _ else _) _ _ s
  rw [if_pos (by decide)]
  refine wpAny_bind (wpAny_rule ?_)
  refine wpAny_bind ?_
  show wpAny _ _ (setField (.ref it) 1 (rawInt (-1)) >>= fun _ => setField (.ref it) 0 .none) _ _ _
  refine wpAny_bind (wpAny_setField ho hd (by simp) ?_)
  have ho2 := Heap.get?_update_self (Obj.mapFields fun x => x.setIfInBounds 1 (rawInt (-1))) ho (Obj.isFreed_of_fields (Obj.data_mapFields hd _))
  refine wpAny_setField ho2 (Obj.data_mapFields hd _) (by simp) ?_
  first
  | show wpAny _ _ (newExc (.type "StopIteration") [] >>= _) _ _ _
  | (refine wpAny_bind ?_; show wpAny _ _ (newExc (.type "StopIteration") [] >>= _) _ _ _)
  refine wpAny_bind ?_
  simp only [newExc, newTuple]
  refine wpAny_bind (wpAny_newObj_type ?_ (by size_fits))
  refine wpAny_bind (m := firstArgMember _ _) (wpAny_of_eq (a := Value.none) (by first | rfl | (simp only [firstArgMember]; rfl)) ?_)
  refine wpAny_newObj_type ?_ (by size_fits)
  simp only [raiseNew]
  refine wpAny_bind (wpAny_handled ?_)
  first | rw [show A.in1.handled = none from hh] | rw [hh]
  refine wpAny_bind (wpAny_pure (wpAny_throw ?_))
  refine wpAny_bind (wpAny_isInstance (T := "StopIteration") (b := true) ⟨_, Heap.get?_push_size _ rfl, rfl⟩ isSubtype_stop ?_)
  refine wpAny_pure (hQ _ ?_)
  refine Heap.ExtBut.push (Heap.ExtBut.push (fun b o hb e => ?_) _) _
  exact (Heap.get?_update_other _ _ (Ne.symm hb)).trans ((Heap.get?_update_other _ _ (Ne.symm hb)).trans e)
theorem wpAny_pyIter_rvd {it t : Addr} {i : Int} {Q : Value → Shared → Prop} (hit : s.heap.IsRvd it t i) (h : Q (.ref it) s) : wpAny (model prog w) A (pyIter (.ref it)) Q E s := by
  refine wpAny_pyIter_slot hit.typeIs F.slot_rvd_iter (wpAny_call_entry F.slot_rvd_iter hit.typeIs F.entry_rvd_iter ?_ (F.args_rvd_iter_1 _))
  show wpAny _ _ (ret (.ref it)) _ _ s
  exact wpAny_pure ⟨_, rfl, "reversed", _, hit.typeIs, F.slot_rvd_next.lookup, h⟩
open PyProof.Rows in
theorem Walks.tupRev (hh : A.handled = none) (I t : Addr) (hne : t ≠ I) (items : Array Value) (hfit : items.size ≤ sizeLine) :
    Walks prog w A I [I, t] [I] items.size (fun i v => items[items.size - 1 - i]? = some v) (fun i h => i ≤ items.size ∧ h.IsRvd I t ((items.size : Int) - 1 - (i : Int)) ∧ IsTup h t items) where
  sub := fun b hb => by simp at hb; simp [hb]
  frame := fun _ _ _ x hk => ⟨x.1, x.2.1.at fun o e => hk I (by simp) o e, (by obtain ⟨o, ho, r⟩ := x.2.2; exact ⟨o, hk t (by simp) o ho, r⟩)⟩
  item := fun i s Q E hi x hQ => by
    have e : (items.size : Int) - 1 - (i : Int) = ((items.size - 1 - i : Nat) : Int) := by omega
    have hit := x.2.1
    rw [e] at hit
    have hx : items[items.size - 1 - i]? = some (items[items.size - 1 - i]'(by omega)) := Array.getElem?_eq_getElem (by omega)
    refine wpAny_pyNext_rvd_item hit x.2.2 hfit hx fun h' tk hit' hs' => ?_
    have e2 : ((items.size - 1 - i : Nat) : Int) - 1 = (items.size : Int) - 1 - ((i + 1 : Nat) : Int) := by omega
    rw [e2] at hit'
    exact hQ _ h' tk hx ⟨hi, hit', (by obtain ⟨o, ho, r⟩ := x.2.2; exact ⟨o, (hs'.2 t hne).trans ho, r⟩)⟩ fun b o hb eo => hs'.extBut b o (fun h => hb (by simp [h])) eo
  done := fun s Q E x hQ => by
    have e : (items.size : Int) - 1 - (items.size : Int) = -1 := by omega
    have hit := x.2.1
    rw [e] at hit
    exact wpAny_pyNext_rvd_end hh hit fun h' he' => hQ h' s.toks fun b o hb eo => he' b o (fun h => hb (by simp [h])) eo
  self := fun _ _ _ _ x hQ => wpAny_pyIter_rvd x.2.1 hQ
open PyProof.Rows in
theorem hint_rvd {it t : Addr} {items : Array Value} {Q : Bool → Shared → Prop} (hit : s.heap.IsRvd it t ((items.size : Int) - 1)) (ht : IsTup s.heap t items) (hfit : items.size ≤ sizeLine) (h1 : 1 ≤ items.size) (h : ∀ tk, Q true { s with toks := tk }) : wpAny (model prog w) A (Builtin.List.listLengthHint (.ref it)) Q E s := by
  obtain ⟨o, ho, hc, hd⟩ := id hit
  have e24 : sizeLine = 16777216 := by decide
  unfold Builtin.List.listLengthHint
  refine wpAny_bind (wpAny_specialOf hit.typeIs F.rvd_no_len ?_)
  refine wpAny_bind (wpAny_specialOf hit.typeIs F.slot_rvd_hint.lookup ?_)
  generalize hid : ("reversed.__length_hint__" : String) = id0
  wp_delta
  rw [show splitId id0 = some ("reversed", "__length_hint__") from by subst hid; decide +kernel]
  subst hid
  refine wpAny_bind (wpAny_isInstance (T := "reversed") (b := true) hit.typeIs (by rw [isSubtype_type]; kernel_rfl) ?_)
  refine wpAny_ite_split (fun hab => absurd hab (by decide)) (fun _ => ?_)
  refine wpAny_ite_split (fun hab => absurd hab (by decide +kernel)) (fun _ => ?_)
  refine wpAny_bind (wpAny_rule ?_)
  refine wpAny_bind (wpAny_of_eq (F.slot_rvd_hint.bind _) ?_)
  dsimp only
  refine wpAny_bind (wpAny_attempt (wpAny_call_entry F.slot_rvd_hint hit.typeIs F.entry_rvd_hint ?_ (F.args_rvd_hint_1 _)))
  unfold Builtin.«reversed.__length_hint__»
  refine wpAny_bind (wpAny_of_eq (a := Value.ref it) rfl ?_)
  refine wpAny_bind (wpAny_field ho hd (x := .ref t) rfl ?_)
  rw [if_neg (show ¬ ((Value.ref t == Value.none) = true) from Bool.false_ne_true)]
  refine wpAny_bind (len_tuple ht (by omega) ?_)
  refine wpAny_bind (wpAny_of_eq (a := some (items.size : Int)) rfl ?_)
  dsimp only
  refine wpAny_bind (wpAny_field ho hd (x := rawInt ((items.size : Int) - 1)) rfl ?_)
  dsimp only [rawInt]
  rw [if_neg (by omega)]
  refine wpAny_bind (wpAny_mkInt (wpAny_pure ⟨_, rfl, ?_⟩))
  dsimp only
  refine wpAny_bind (wpAny_of_eq (a := some ((items.size : Int) - 1 + 1)) rfl ?_)
  dsimp only
  have e1 : Builtin.List.listFitsIndex ((items.size : Int) - 1 + 1) = true := by
    unfold Builtin.List.listFitsIndex
    simp only [Bool.and_eq_true, decide_eq_true_eq, Bool.not_eq_true', Bool.or_eq_false_iff, decide_eq_false_iff_not]
    omega
  have e2 : Builtin.List.listTooLong ((items.size : Int) - 1 + 1).toNat = false := by
    unfold Builtin.List.listTooLong
    simp only [decide_eq_false_iff_not]
    omega
  rw [e1, e2, if_neg (by decide), if_neg (by omega), if_neg (by decide)]
  have e3 : (((items.size : Int) - 1 + 1) != 0) = true := by
    rw [bne_iff_ne]; omega
  rw [e3]
  exact wpAny_pure (h _)
open PyProof.Rows in
theorem extend_rvd {R : Result → Shared → Prop} {it t : Addr} {items : Array Value} (hh : A.handled = none) (hit : s.heap.IsRvd it t ((items.size : Int) - 1)) (ht : IsTup s.heap t items) (hsz : items.size ≤ sizeLine) (h1 : 1 ≤ items.size)
    (S : Addr) (res : Value) (c₀ : Nat) (hS : s.heap.get? S = some { cls := .type "list", data := .seq #[] c₀ }) (hSl : S ≠ t)
    (hR : ∀ h' tk acc' c', (∀ b o, b ≠ S → b ≠ it → s.heap.get? b = some o → h'.get? b = some o) → h'.get? S = some { cls := .type "list", dict := none, data := .seq acc' c', slots := #[] } →
      ItemsOf (fun i v => items[items.size - 1 - i]? = some v) acc' items.size → R (.ok (.ret res)) { s with heap := h', toks := tk }) :
    wpAny (model prog w) A.in1 (Builtin.List.listExtendWith (.ref S) (.ref it) res)
      (fun fin s' => match fin with | .done f => R (.ok f) s' | .again c' => c'.quiet = true ∧ codeAny (model prog w) A c' R s') (fun e s' => R (.error e) s') s := by
  obtain ⟨oi, hoi, hci, hdi⟩ := id hit
  have hSi : S ≠ it := fun e => by
    rw [e, hoi] at hS
    injection hS with e1
    rw [e1] at hci
    exact absurd (show Value.type "list" = Value.type "reversed" from hci) (by decide)
  have hti : t ≠ it := fun e => by
    obtain ⟨o2, h2, c2, _⟩ := ht
    rw [e, hoi] at h2
    injection h2 with e1
    rw [e1, c2] at hci
    exact absurd hci (by decide)
  have hSf : S ∉ [it, t] := fun hm => by
    rcases List.mem_cons.mp hm with e | e
    · exact hSi e
    · exact hSl (List.mem_singleton.mp e)
  unfold Builtin.List.listExtendWith
  refine wpAny_bind (wpAny_typeOf (T := "reversed") hit.typeIs ?_)
  have h1' : Builtin.List.listSameRef (.ref S) (.ref it) = false := by simp [Builtin.List.listSameRef, hSi]
  have h2 : (Value.type "reversed" == Value.type "list") = false := by decide
  have h3 : (Value.type "reversed" == Value.type "tuple") = false := by decide
  simp only [h1', h2, h3, Bool.or_false, Bool.false_eq_true, if_false]
  refine wpAny_bind (wpAny_pyIter_rvd hit ?_)
  refine wpAny_bind (wpAny_holding (hint_rvd hit ht hsz h1 fun tk => ?_))
  refine wpAny_ite_split (fun _ => ?_) (fun hab => absurd (by rfl) hab)
  refine wpAny_bind (wpAny_rule ?_)
  refine wpAny_bind ?_
  unfold Builtin.List.listTouch
  show wpAny _ _ (updateSeq S (fun x => x.push .none) >>= fun _ => updateSeq S (fun x => x.pop)) _ _ _
  refine wpAny_bind (wpAny_updateSeq hS rfl ?_)
  have hS2 := Heap.get?_update_self (Obj.mapSeq (fun x : Array Value => x.push .none)) hS rfl
  refine wpAny_updateSeq hS2 rfl ?_
  have hS3 := Heap.get?_update_self (Obj.mapSeq (fun x : Array Value => x.pop)) hS2 rfl
  have oth : ∀ b o, b ≠ S → s.heap.get? b = some o → ((s.heap.update S (Obj.mapSeq (fun x : Array Value => x.push .none))).update S (Obj.mapSeq (fun x : Array Value => x.pop))).get? b = some o :=
    fun b o hb e => (Heap.get?_update_other _ _ (Ne.symm hb)).trans ((Heap.get?_update_other _ _ (Ne.symm hb)).trans e)
  refine wpAny_pure ⟨plainId_quiet F.plain_extend_loop _, codeAny_extend_loopS ((Walks.tupRev (prog := prog) (w := w) (A := A.in1) hh it t hti items hsz).toS) hsz _ hSf _ items.size 0 _ _ _ rfl (Nat.zero_le _) ⟨Nat.zero_le _, by simpa using hit.at fun o e => oth it o (Ne.symm hSi) e, (by obtain ⟨o, ho, r⟩ := ht; exact ⟨o, oth t o (Ne.symm hSl) ho, r⟩)⟩ hS3 (ItemsOf.nil _) fun s' acc' c' hm hS' hacc => ?_⟩
  rw [Moved.eq_with hm]
  refine hR s'.heap s'.toks acc' c' (fun b ob hb hb2 e => hm.heap b ob (fun hmem => ?_) (oth b ob hb e)) hS' hacc
  rcases List.mem_cons.mp hmem with e' | hmem
  · exact hb e'
  · exact hb2 (List.mem_singleton.mp hmem)
open PyProof.Rows in
theorem list_init_rvd {R : Result → Shared → Prop} {it t : Addr} {items : Array Value} (hh : A.handled = none) (hit : s.heap.IsRvd it t ((items.size : Int) - 1)) (ht : IsTup s.heap t items) (hsz : items.size ≤ sizeLine) (h1 : 1 ≤ items.size)
    (S : Addr) (hS : s.heap.get? S = some { cls := .type "list", data := .seq #[] }) (hSl : S ≠ t)
    (hR : ∀ h' tk acc' c', (∀ b o, b ≠ S → b ≠ it → s.heap.get? b = some o → h'.get? b = some o) → h'.get? S = some { cls := .type "list", dict := none, data := .seq acc' c', slots := #[] } →
      ItemsOf (fun i v => items[items.size - 1 - i]? = some v) acc' items.size → R (.ok (.ret .none)) { s with heap := h', toks := tk }) :
    wpAny (model prog w) A.in1 (Builtin.«list.__init__» ⟨[.ref S, .ref it], []⟩)
      (fun fin s' => match fin with | .done f => R (.ok f) s' | .again c' => c'.quiet = true ∧ codeAny (model prog w) A c' R s') (fun e s' => R (.error e) s') s := by
  show wpAny _ _ (do let old ← Builtin.List.listItems (.ref S); Builtin.List.listUpdate (.ref S) (fun _ => #[]); letGo old.toList.reverse; Builtin.List.listExtendWith (.ref S) (.ref it) .none) _ _ s
  have hSi : S ≠ it := fun e => by
    obtain ⟨oi, hoi, hci, hdi⟩ := hit
    rw [e, hoi] at hS
    injection hS with e1
    rw [e1] at hci
    exact absurd (show Value.type "list" = Value.type "reversed" from hci) (by decide)
  refine wpAny_bind ?_
  unfold Builtin.List.listItems
  refine wpAny_bind (wpAny_seqItems hS rfl (wpAny_pure ?_))
  show wpAny _ _ (updateSeq S (fun _ => #[]) >>= fun _ => letGo (#[] : Array Value).toList.reverse >>= fun _ => Builtin.List.listExtendWith (.ref S) (.ref it) .none) _ _ s
  refine wpAny_bind (wpAny_updateSeq hS rfl ?_)
  have hS₂ := Heap.get?_update_self (Obj.mapSeq (fun _ => (#[] : Array Value))) hS rfl
  have oth : ∀ b o, b ≠ S → s.heap.get? b = some o → (s.heap.update S (Obj.mapSeq (fun _ => (#[] : Array Value)))).get? b = some o :=
    fun b o hb e => (Heap.get?_update_other _ _ (Ne.symm hb)).trans e
  refine wpAny_bind (wpAny_letGo ?_)
  refine extend_rvd hh (hit.at fun o e => oth it o (Ne.symm hSi) e) (by obtain ⟨o, ho, r⟩ := ht; exact ⟨o, oth t o (Ne.symm hSl) ho, r⟩) hsz h1 S .none _ hS₂ hSl fun h' tk acc' c' hk hS' hacc => ?_
  exact hR h' tk acc' c' (fun b o hb hb2 e => hk b o hb hb2 (oth b o hb e)) hS' hacc
open PyProof.Rows in
theorem call_list_rvd {Q : Value → Shared → Prop} {it t : Addr} {items : Array Value} (hh : A.handled = none) (hit : s.heap.IsRvd it t ((items.size : Int) - 1)) (ht : IsTup s.heap t items) (hsz : items.size ≤ sizeLine) (h1 : 1 ≤ items.size)
    (hQ : ∀ h' tk acc' c', (∀ b o, b ≠ it → s.heap.get? b = some o → h'.get? b = some o) →
      h'.get? s.heap.objs.size = some { cls := .type "list", dict := none, data := .seq acc' c', slots := #[] } → ItemsOf (fun i v => items[items.size - 1 - i]? = some v) acc' items.size → Q (.ref s.heap.objs.size) { s with heap := h', toks := tk }) :
    wpAny (model prog w) A (call (.type "list") [.ref it]) Q E s := by
  refine callType_codes (Q₁ := fun obj s₁ => obj = .ref s.heap.objs.size ∧ s₁ = { s with heap := s.heap.push { cls := .type "list", data := .seq #[] } }) F.called_list (F.typeCall_list_1 _) F.entry_list_init
    (code_list_new _ ⟨rfl, rfl⟩) fun obj s₁ h₁ => ?_
  obtain ⟨rfl, rfl⟩ := h₁
  have hS : (s.heap.push { cls := .type "list", data := .seq #[] }).get? s.heap.objs.size = some { cls := .type "list", data := .seq #[] } := Heap.get?_push_size _ rfl
  have hSl : s.heap.objs.size ≠ t := fun e => by
    obtain ⟨o2, h2, _⟩ := ht
    exact absurd (Heap.lt_size h2) (by rw [← e]; exact Nat.lt_irrefl _)
  refine ⟨⟨_, hS, rfl⟩, F.args_list_init_2 _ _, list_init_rvd (A := A.in1) hh (hit.at fun o e => Heap.get?_push_of_some _ e) (by obtain ⟨o, ho, r⟩ := ht; exact ⟨o, Heap.get?_push_of_some _ ho, r⟩) hsz h1 _ hS hSl fun h' tk acc' c' hk hS' hacc => ?_⟩
  exact ⟨rfl, hQ h' tk acc' c' (fun b o hb e => hk b o (Nat.ne_of_lt (Heap.lt_size e)) hb (Heap.get?_push_of_some _ e)) hS' hacc⟩
end
end PySem
namespace TT
open PySem PySem.Spec PyProof.Rows L2
section
variable {X : Cx}
def tListRvd (K : PySem.W.Frag) (ta : TA) : TE := fun σ H Q => ta σ H fun vs H1 => ∃ a xs, vs = [.ref a] ∧ SqT K H1 a xs ∧ xs ≠ [] ∧ ∀ l, H1 l = none → Q (.ref l) (upd H1 l (.lst xs.reverse))
theorem pe_listRvd {e : Expr} {ta : TA} {p q pos pos2 : Pos} (hg : Gl X "reversed") (hm : X.mg "reversed" = none) (hg2 : Gl X "list") (hm2 : X.mg "list" = none) (hd : X.A.handled = none) (ha : PA X [e] ta) (hs : starEach [e] X.env = [(false, eval e X.env)] := by rfl)
    (hs2 : starEach [.Call (.Name "reversed" p) [e] [] pos] X.env = [(false, eval (.Call (.Name "reversed" p) [e] [] pos) X.env)] := by rfl) :
    PE X (.Call (.Name "list" q) [.Call (.Name "reversed" p) [e] [] pos] [] pos2) (tListRvd X.K ta) := by
  intro pins s σ H Q I h
  refine wpAny_Call_Name_kw (ld_blt I hg2 hm2 bt_list ?_)
  refine PyProof.Rows.callWith_type1 ?_ hs2 rfl
  rw [hs2]
  show wpAny _ _ (spliced ((false, eval (.Call (.Name "reversed" p) [e] [] pos) X.env) :: [])) _ _ s
  refine Calls.spliced_cons ?_
  refine Call_ (ld_blt I hg hm bt_reversed (PyProof.Rows.callWith_type1 (thn (ha pos pins s σ H _ I h) fun us s1 ⟨vs, H1, I1, r1, q1⟩ => ?_) hs rfl))
  obtain ⟨a, xs, e, hq, hne, q⟩ := q1
  subst e
  cases r1 with
  | cons r rr =>
    cases rr
    cases r
    obtain ⟨its, rv, pl, hz⟩ := I1.tuple hq
    have hl := rv.length
    have h1 : 1 ≤ its.toArray.size := by
      rw [List.size_toArray, ← hl]
      exact List.length_pos_iff.mpr hne
    have hsz : its.toArray.size ≤ sizeLine := by rw [List.size_toArray]; omega
    refine call_reversed_tup pl hsz fun tk0 => Calls.spliced_nil ?_
    have hit : (s1.heap.push (rvdObj a ((its.toArray.size : Int) - 1))).IsRvd s1.heap.objs.size a ((its.toArray.size : Int) - 1) := ⟨_, Heap.get?_push_size _ rfl, rfl, rfl⟩
    refine call_list_rvd (s := { s1 with heap := s1.heap.push (rvdObj a ((its.toArray.size : Int) - 1)), toks := tk0 }) hd hit (by obtain ⟨o, ho, r⟩ := pl; exact ⟨o, Heap.get?_push_of_some _ ho, r⟩) hsz h1 fun h' tk acc' c' kp e hacc => ?_
    have el := items_rev hacc
    have rr := vals_rev rv
    rw [← el] at rr
    have kp1 : ∀ b u, s1.heap.get? b = some u → h'.get? b = some u := fun b u eb => kp b u (Nat.ne_of_lt (Heap.lt_size eb)) (Heap.get?_push_of_some _ eb)
    have hfr : H1 (s1.heap.push (rvdObj a ((its.toArray.size : Int) - 1))).objs.size = none := I1.hok.fresh (by rw [Heap.size_push]; omega)
    refine ⟨.ref (s1.heap.push (rvdObj a ((its.toArray.size : Int) - 1))).objs.size, _, I1.laid (t' := tk) (o := .lst xs.reverse) kp1 (by rw [Heap.size_push]; omega) (show ObjOk X.prog X.w _ h' _ (.lst xs.reverse) from ⟨by rw [List.length_reverse]; exact hz, acc'.toList, c', rr, by simpa using e⟩), rfl, q _ hfr⟩
end
end TT
namespace K11
open PySem L2 TT
/-- the top statements of the text -/
def top (i : Nat) : Stmt := PySem.Challenge.pw_treetrim_k11_lines_read_or_refused.main.body.getD i (.Pass ⟨0, 0, 0, 0⟩)
abbrev sMark : Stmt := top 5
abbrev sKnot : Stmt := top 6
abbrev sRead : Stmt := top 10
abbrev sNbr : Stmt := top 11
abbrev sBrk : Stmt := top 12
abbrev sRowOf : Stmt := top 13
abbrev sLawAt : Stmt := top 15
abbrev sDrawn : Stmt := top 16
abbrev sIsRow : Stmt := top 17
abbrev sLineOf : Stmt := top 18
abbrev sWell : Stmt := top 19
abbrev sAsked : Stmt := top 20
abbrev sWord : Stmt := top 21
abbrev sRoom : Stmt := top 22
abbrev sTells : Stmt := top 23
abbrev sLaw : Stmt := top 24
/-- what the text does not name anew -/
structure Txt (mg : Str → Option Value) : Prop where
  list : mg "list" = none
  tuple : mg "tuple" = none
  len : mg "len" = none
  range : mg "range" = none
  min : mg "min" = none
  abs : mg "abs" = none
  isinstance : mg "isinstance" = none
  str : mg "str" = none
  int : mg "int" = none
  reversed : mg "reversed" = none
section
variable {P : Program} {w : World} {K : PySem.W.Frag} {mg : Str → Option Value} {base : Heap}
/-! ### mark_of, knot -/
def spMark : Sp := fun vs H Q _ => ∃ (G : Hp) (v : V) (t : Tr), vs = [v] ∧ Same G H ∧ Rep G v t.d ∧ Q (.str t.mark) H
theorem scMark : FnScope ["tree"] ["tree"] (defScope sMark) := ⟨rfl, rfl, rfl, by decide +kernel, rfl, by decide +kernel, by decide +kernel⟩
theorem ok_mark {f : Addr} {fd : FuncData} (F : Fun K "mark_of" "mark_of" sMark f fd) : FnOk P w K mg base CX0 3 f fd ["tree"] spMark := by
  refine F.ok scMark (fun vs H Q E h => ?_) (fun cdv A outer s H vs Q E hr h => ?_)
  · obtain ⟨G, v, t, rfl, _⟩ := h
    rfl
  · obtain ⟨G, v, t, rfl, sm, r, k⟩ := h
    obtain ⟨a, kv, rfl, ha, rk⟩ := r.tree
    refine ⟨_, (pss_one (ps_ret (pe_ix ix_tup (pv 0) pe_int (fun _ _ => rfl)))), ?_⟩
    exact ⟨_, rfl, a, _, _, _, rfl, rfl, SqT.of (sm _ _ ha), atI_nat (j := 0) rfl, k⟩
def spKnot : Sp := fun vs H Q _ => ∃ (G : Hp) (m : Str) (v : V) (ts : List Tr), vs = [.str m, v] ∧ Same G H ∧ Rep G v (rowD ts) ∧ ts.length ≤ 100000 ∧ ∀ (G' H' : Hp) (r : V), Ext G H G' H' → Rep G' r (Tr.node m ts).d → Q r H'
theorem scKnot : FnScope ["mark", "trees"] ["mark", "trees"] (defScope sKnot) := ⟨rfl, rfl, rfl, by decide +kernel, rfl, by decide +kernel, by decide +kernel⟩
theorem ok_knot {f : Addr} {fd : FuncData} (F : Fun K "knot" "knot" sKnot f fd) (T : Txt mg) : FnOk P w K mg base CX0 3 f fd ["mark", "trees"] spKnot := by
  refine F.ok scKnot (fun vs H Q E h => ?_) (fun cdv A outer s H vs Q E hr h => ?_)
  · obtain ⟨G, m, v, t, rfl, _⟩ := h
    rfl
  · obtain ⟨G, m, v, ts, rfl, sm, r, hl, k⟩ := h
    obtain ⟨a, tv, rfl, ha, rt⟩ := r.row
    have hlen := rt.length
    rw [List.length_map] at hlen
    have big := line_big
    refine ⟨_, (pss_one (ps_ret (pe_callTy call_tuple_of rfl T.tuple bt_tuple (pa_cons (pe_op op_cat (pe_lst (pa_cons (pv 0) pa_nil)) (pv 1)) pa_nil)))), ?_⟩
    refine ⟨_, rfl, (by show 1 ≤ sizeLine; decide), fun p1 h1 => ⟨_, rfl, p1, a, _, _, rfl, rfl, upd_same, same_upd h1 _ _ (sm _ _ ha), (by show 1 + tv.length ≤ sizeLine; omega), fun p2 h2 => ⟨p2, _, rfl, .inl ⟨SqL.of upd_same, fun p3 h3 => ?_⟩⟩⟩⟩
    have x1 : Ext G H G (upd H p1 (.lst [V.str m])) := Ext.tmp sm h1
    have x2 := x1.trans (Ext.tmp (o := .lst ([V.str m] ++ tv)) x1.gh h2)
    have x3 := x2.trans (Ext.add (o := .tup ([V.str m] ++ tv)) x2.gh h3)
    refine k _ _ _ x3 ?_
    rw [tree_d]
    exact .tup upd_same (.cons (.str m) (rt.mono x3.g))
/-! ### _law_at -/
def spLawAt (K : PySem.W.Frag) : Sp := fun vs H Q _ => ∃ (a : Addr) (ns : List Int) (k : Nat), vs = [.ref a, .int (k : Int)] ∧ SqL K H a (ns.map V.int) ∧ ∀ m : Int, Q (.int m) H
theorem scLawAt : FnScope ["_law_script", "_law_k"] ["_law_script", "_law_k"] (defScope sLawAt) := ⟨rfl, rfl, rfl, by decide +kernel, rfl, by decide +kernel, by decide +kernel⟩
theorem ok_lawat {f : Addr} {fd : FuncData} (F : Fun K "_law_at" "_law_at" sLawAt f fd) (T : Txt mg) : FnOk P w K mg base CX0 3 f fd ["_law_script", "_law_k"] (spLawAt K) := by
  refine F.ok scLawAt (fun vs H Q E h => ?_) (fun cdv A outer s H vs Q E hr h => ?_)
  · obtain ⟨a, ns, k, rfl, _⟩ := h
    rfl
  · obtain ⟨a, ns, k, rfl, hS, q⟩ := h
    refine ⟨_, (pss_cons (ps_if (pt_cmpR op_lt (pv 1) (pe_callB call_len_seq rfl T.len bt_len (pa_cons (pv 0) pa_nil)) (nomark _))
        (pss_one (ps_ret (pe_ix ix_list (pv 0) (pv 1) (fun _ _ => rfl))))
        pss_nil)
      (pss_one (ps_ret pe_int))), ?_⟩
    refine ⟨_, rfl, _, rfl, a, _, rfl, .inl hS, _, _, rfl, rfl, _, rfl, ?_⟩
    refine ite2 (fun h => ?_) (fun _ => q 0)
    have h1 := of_decide_eq_true h
    rw [List.length_map] at h1
    exact ⟨_, rfl, _, rfl, a, _, _, _, rfl, rfl, hS, ints_ix (by omega), q _⟩
/-! ### _law_is_row -/
def spIsRow : Sp := fun vs H Q _ => ∃ (G : Hp) (v : V) (ts : List Tr), vs = [v] ∧ Same G H ∧ Rep G v (rowD ts) ∧ knotsOf ts ≤ 1000 ∧ ∀ H' : Hp, Same H H' → Q (.bl true) H'
theorem scIsRow : FnScope ["_law_found", "_law_todo", "_law_tree"] ["_law_found"] (defScope sIsRow) := ⟨rfl, rfl, rfl, by decide +kernel, rfl, by decide +kernel, by decide +kernel⟩
theorem ok_isrow {f : Addr} {fd : FuncData} (F : Fun K "_law_is_row" "_law_is_row" sIsRow f fd) (T : Txt mg) : FnOk P w K mg base CX0 5 f fd ["_law_found"] spIsRow := by
  refine F.ok scIsRow (fun vs H Q E h => ?_) (fun cdv A outer s H vs Q E hr h => ?_)
  · obtain ⟨G, v, ts, rfl, _⟩ := h
    rfl
  · obtain ⟨G, v, ts, rfl, sm, rv, hkt, k⟩ := h
    have nd := scIsRow.nd
    have hu := hr.units0
    have big := line_big
    refine ⟨_, (pss_cons (ps_if (pt_not (pt_val (pe_callB call_isi rfl T.isinstance bt_isinstance (pa_cons (pv 0) (pa_cons (pe_ty rfl T.list bt_list) pa_nil)))))
        (pss_one (ps_ret pe_bl))
        pss_nil)
      (pss_cons (ps_set (i := 1) nd rfl (Or.inl rfl) (pe_callTy call_list_of rfl T.list bt_list (pa_cons (pv 0) pa_nil)))
      (pss_cons (ps_while PassesOwn.never (pt_cmpR (op_neE hu) (pv 1) (pe_lst pa_nil) (nomark _))
        (pss_cons (ps_set (i := 2) nd rfl (Or.inl rfl) (pe_bm0 PySem.F.plainAttrs_list PySem.F.slot_list_pop PySem.F.type_list_pop mt_pop (pv 1)))
        (pss_cons (ps_if (PW.pt (pw_or (pt_not (pt_val (pe_callB call_isi rfl T.isinstance bt_isinstance (pa_cons (pv 2) (pa_cons (pe_ty rfl T.tuple bt_tuple) pa_nil))))) (pw_or (pt_cmpR op_eq (pe_callB call_len_seq rfl T.len bt_len (pa_cons (pv 2) pa_nil)) pe_int (nomark _)) (pw_or1 (pt_not (pt_val (pe_callB call_isi rfl T.isinstance bt_isinstance (pa_cons (pe_ix ix_tup (pv 2) pe_int (fun _ _ => rfl)) (pa_cons (pe_ty rfl T.str bt_str) pa_nil)))))))))
          (pss_one (ps_ret pe_bl))
          pss_nil)
        (pss_one (ps_set (i := 1) nd rfl (Or.inl rfl) (pe_op op_cat (pv 1) (pe_callTy call_list_of rfl T.list bt_list (pa_cons (pe_slice sl_tup (pv 2) (po_some pe_int) po_none) pa_nil))))))))
      (pss_one (ps_ret pe_bl))))), ?_⟩
    obtain ⟨ra, rvs, rfl, hra, rts⟩ := rv.row
    refine ⟨_, rfl, _, _, _, _, rfl, .lst (sm _ _ hra), kit_list_list K, _, rfl, iteF ?_⟩
    refine ⟨_, rfl, ra, rvs, rfl, .inl (SqL.of (sm _ _ hra)), fun p0 hp0 => ?_⟩
    refine ⟨fun m σ H2 => ∃ (pt : Addr) (tv : List V) (us : List Tr) (z : Option V), σ = [some (.ref ra), some (.ref pt), z] ∧ Ext G H G H2 ∧ G pt = none ∧ H pt = none ∧ H2 pt = some (.lst tv) ∧ Reps G tv (us.map Tr.d) ∧ knotsOf us = m ∧ m ≤ 1000,
      ⟨_, p0, rvs, ts, none, rfl, Ext.tmp sm hp0, sm.none hp0, hp0, upd_same, rts, rfl, hkt⟩, ?_⟩
    rintro m σ H2 ⟨pt, tv, us, z, rfl, x, nG, nH, hpt, rus, rfl, hm⟩
    refine ⟨_, rfl, Nat.zero_le _, fun pe hpe => ⟨pt, pe, tv, rfl, rfl, SqL.of (same_upd hpe _ _ hpt), SqL.of upd_same, _, rfl, ?_⟩⟩
    have x1 := x.trans (Ext.tmp (o := .lst []) x.gh hpe)
    have hpt1 := same_upd (o := .lst []) hpe _ _ hpt
    cases he : tv.isEmpty with
    | true => exact iteF (k _ x1.h)
    | false =>
      obtain ⟨t0, y, rfl⟩ := last_of tv he
      have hul := rus.length
      rw [List.length_map, List.length_append, List.length_singleton] at hul
      obtain ⟨us0, t, rfl⟩ : ∃ us0 t, us = us0 ++ [t] := by
        cases hq : us.isEmpty with
        | true => rw [List.isEmpty_iff.mp hq] at hul; simp at hul
        | false => exact last_of us hq
      rw [List.map_append] at rus
      have hl0 : t0.length = us0.length := by rw [List.length_append, List.length_singleton] at hul; omega
      have r0 : Reps G t0 (us0.map Tr.d) := by
        have := rus.take t0.length
        rwa [List.take_left, show t0.length = (us0.map Tr.d).length by rw [List.length_map]; exact hl0, List.take_left] at this
      have rt : Rep G y t.d := by
        have := rus.drop t0.length
        rw [List.drop_left, show t0.length = (us0.map Tr.d).length by rw [List.length_map]; exact hl0, List.drop_left] at this
        cases this with
        | cons r _ => exact r
      obtain ⟨tra, kv, rfl, htra, rkv⟩ := rt.tree
      have hkm : knotsOf (us0 ++ [t]) = knotsOf us0 + (1 + knotsOf t.kids) := by rw [knotsOf_append, knotsOf, knotsOf, knots_eq]; rfl
      have hkvl := rkv.length
      rw [List.length_map] at hkvl
      have l1 := length_le_knots us0
      have l2 := length_le_knots t.kids
      refine iteT ⟨fun σ' H' => ∃ m', m' < knotsOf (us0 ++ [t]) ∧ ∃ (pt : Addr) (tv : List V) (us : List Tr) (z : Option V), σ' = [some (.ref ra), some (.ref pt), z] ∧ Ext G H G H' ∧ G pt = none ∧ H pt = none ∧ H' pt = some (.lst tv) ∧ Reps G tv (us.map Tr.d) ∧ knotsOf us = m' ∧ m' ≤ 1000, fun _ _ z => z, ?_⟩
      -- tree = todo.pop()
      refine ⟨_, rfl, .inl ⟨rfl, _, SqL.of hpt1⟩, pt, _, _, rfl, rfl, hpt1, last_at t0 _, ?_⟩
      rw [List.dropLast_concat]
      have x2 := x1.mut (o := .lst t0) nG nH
      have ht2 := x2.gh _ _ htra
      refine ⟨_, rfl, _, _, _, _, rfl, .tup ht2, kit_tuple_tuple K, _, rfl, iteF ?_⟩
      refine ⟨_, rfl, tra, _, rfl, .inr (SqT.of ht2), rfl, _, rfl, ?_⟩
      refine ite2 (fun h => ?_) (fun _ => ?_)
      · exfalso
        have := of_decide_eq_true h
        injection this with this
        rw [List.length_cons] at this
        omega
      refine ⟨_, rfl, tra, _, _, _, rfl, rfl, SqT.of ht2, atI_nat (j := 0) rfl, _, _, _, _, rfl, .str _, kit_str_str K, _, rfl, iteF ?_⟩
      -- todo = todo + list(tree[1:])
      refine ⟨_, rfl, _, rfl, _, rfl, tra, _, rfl, SqT.of ht2, kids_not _ _, fun q1 h1 => ⟨q1, kv, rfl, .inr (SqT.of (by rw [upd_same, kids_cut])), fun q2 h2 => ?_⟩⟩
      have x3 := x2.trans (Ext.tmp (o := .tup (cutV (V.str t.mark :: kv) (some 1) none)) x2.gh h1)
      have x4 := x3.trans (Ext.tmp (o := .lst kv) x3.gh h2)
      refine ⟨pt, q2, _, _, rfl, rfl, same_upd h2 _ _ (same_upd h1 _ _ upd_same), upd_same, (by omega), fun q3 h3 => ?_⟩
      have x5 := x4.trans (Ext.tmp (o := .lst (t0 ++ kv)) x4.gh h3)
      refine ⟨_, ?_, q3, _, us0 ++ t.kids, _, rfl, x5, x4.gh.none h3, x4.h.none h3, upd_same, ?_, rfl, ?_⟩
      · rw [knotsOf_append]; omega
      · rw [List.map_append]
        exact r0.append rkv
      · rw [knotsOf_append]; omega
/-! ### _law_any_word -/
def spWord : Sp := fun vs H Q _ => ∃ n : Int, vs = [.int n] ∧ ∀ (H' : Hp) (x : Str), Same H H' → Word x → Q (.str x) H'
theorem scWord : FnScope ["_law_cell", "_law_left", "_law_word"] ["_law_cell"] (defScope sWord) := ⟨rfl, rfl, rfl, by decide +kernel, rfl, by decide +kernel, by decide +kernel⟩
def leftOf : L2.St → Nat
  | [_, some (.int l), _] => (l + 1).toNat
  | _ => 0
theorem word_len {l : Int} {n : Nat} (h0 : 0 ≤ l) (h : (l + 1) * 26 ^ n ≤ 10 ^ 39) : n ≤ 27 := by
  by_cases hn : n ≤ 27
  · exact hn
  · exfalso
    obtain ⟨d, rfl⟩ : ∃ d, n = 28 + d := ⟨n - 28, by omega⟩
    have p0 : (0 : Int) < 26 ^ d := Int.pow_pos (by decide)
    have e : (26 : Int) ^ (28 + d) = 26 ^ 28 * 26 ^ d := Int.pow_add ..
    have h1 : (26 : Int) ^ 28 * 26 ^ d ≥ 26 ^ 28 * 1 := Int.mul_le_mul_of_nonneg_left (by omega) (by decide)
    have h2 : (l + 1) * (26 ^ (28 + d) : Int) ≥ 1 * (26 ^ (28 + d) : Int) := Int.mul_le_mul_of_nonneg_right (by omega) (by rw [e]; exact Int.mul_nonneg (by decide) (by omega))
    have h3 : (26 : Int) ^ 28 > 10 ^ 39 := by decide
    rw [e] at h2
    rw [e] at h
    omega
theorem ok_word {f : Addr} {fd : FuncData} (F : Fun K "_law_any_word" "_law_any_word" sWord f fd) (T : Txt mg) : FnOk P w K mg base CX0 3 f fd ["_law_cell"] spWord := by
  refine F.ok scWord (fun vs H Q E h => ?_) (fun cdv A outer s H vs Q E hr h => ?_)
  · obtain ⟨n, rfl, _⟩ := h
    rfl
  · obtain ⟨n, rfl, k⟩ := h
    have nd := scWord.nd
    refine ⟨_, (pss_cons (ps_set (i := 1) nd rfl (Or.inl rfl) (pe_op op_mod (pe_callB call_abs rfl T.abs bt_abs (pa_cons (pv 0) pa_nil)) (pe_op op_pow pe_int pe_int)))
      (pss_cons (ps_set (i := 2) nd rfl (Or.inl rfl) pe_str)
      (pss_cons (ps_while PassesOwn.never (pt_cmpR op_ge (pv 1) pe_int (nomark _))
        (pss_cons (ps_set (i := 2) nd rfl (Or.inl rfl) (pe_op op_add_str (pe_ix ix_str pe_str (pe_op op_mod (pv 1) pe_int) (fun _ _ => rfl)) (pv 2)))
        (pss_one (ps_set (i := 1) nd rfl (Or.inl rfl) (pe_op op_sub (pe_op op_fdiv (pv 1) pe_int) pe_int)))))
      (pss_one (ps_ret (pv 2)))))), ?_⟩
    refine ⟨_, rfl, n, rfl, _, _, rfl, rfl, ⟨by decide, by decide, by decide⟩, _, _, rfl, rfl, (by show (0 : Int) < 10 ^ (39 : Int).toNat; decide), ?_⟩
    refine while_by (fun σ H2 => ∃ (l : Int) (x : Str), σ = [some (.int n), some (.int l), some (.str x)] ∧ H2 = H ∧ -1 ≤ l ∧ (l + 1) * 26 ^ x.length ≤ 10 ^ 39 ∧ (∀ c ∈ x.cps.toList, 97 ≤ c ∧ c ≤ 122) ∧ (l = -1 → 1 ≤ x.length) ∧ x.length ≤ 28)
      (fun σ _ => leftOf σ) ?_ ?_ (fun σ H Q Q' hq ⟨v, e, i, j, e1, e2, kk, e3, h⟩ => ⟨v, e, i, j, e1, e2, kk, e3, hq _ _ h⟩)
    · refine ⟨_, _, rfl, rfl, ?_, ?_, ?_, ?_, ?_⟩
      · have := Int.emod_nonneg (if n < 0 then -n else n) (b := 10 ^ (39 : Int).toNat) (by decide)
        omega
      · have := Int.emod_lt_of_pos (if n < 0 then -n else n) (b := 10 ^ (39 : Int).toNat) (by decide)
        show (_ + 1) * 26 ^ 0 ≤ _
        have e : (10 : Int) ^ (39 : Int).toNat = 10 ^ 39 := rfl
        rw [e] at this
        omega
      · intro c hc
        have : c ∈ ([] : List Nat) := hc
        cases this
      · intro e
        have := Int.emod_nonneg (if n < 0 then -n else n) (b := 10 ^ (39 : Int).toNat) (by decide)
        omega
      · exact Nat.zero_le _
    · rintro σ H2 ⟨l, x, rfl, rfl, hl, hb, hw, h1, h28⟩
      refine ⟨_, rfl, _, _, rfl, rfl, _, rfl, ?_⟩
      refine ite2 (fun hge => ?_) (fun hge => ?_)
      · have h0 : 0 ≤ l := of_decide_eq_true hge
        have hlen := word_len h0 hb
        obtain ⟨c, hat, hc1, hc2⟩ := alphabet_at l
        refine ⟨_, rfl, _, _, rfl, rfl, (by show (0 : Int) < 26; decide), _, _, c, rfl, rfl, (by decide +kernel), hat, _, rfl, _, _, rfl, rfl, ?_, ?_⟩
        · show 1 + x.length ≤ sizeLine
          have := line_big
          omega
        · refine ⟨_, rfl, _, _, rfl, rfl, ⟨by decide, by decide⟩, _, _, rfl, rfl, ?_⟩
          have hx : ((⟨#[c]⟩ : Str) ++ x).length = 1 + x.length := by
            show (#[c] ++ x.cps).size = 1 + x.cps.size
            rw [Array.size_append]; rfl
          have hq : l / 26 ≤ l := by omega
          refine ⟨⟨l / 26 - 1, (⟨#[c]⟩ : Str) ++ x, rfl, rfl, by omega, ?_, ?_, ?_, ?_⟩, ?_⟩
          · rw [hx, Int.sub_add_cancel, Nat.add_comm, Int.pow_succ, ← Int.mul_assoc, Int.mul_assoc (l / 26), Int.mul_comm (26 ^ x.length) 26, ← Int.mul_assoc]
            have p0 : (0 : Int) ≤ 26 ^ x.length := Int.le_of_lt (Int.pow_pos (by decide))
            exact Int.le_trans (Int.mul_le_mul_of_nonneg_right (by omega) p0) hb
          · intro d hd
            have hd' : d ∈ ((#[c] ++ x.cps) : Array Nat).toList := hd
            rw [Array.toList_append] at hd'
            rcases List.mem_append.mp hd' with h | h
            · have : d = c := by simpa using h
              omega
            · exact hw d h
          · intro _; rw [hx]; omega
          · rw [hx]; omega
          · show (l / 26 - 1 + 1).toNat < (l + 1).toNat
            omega
      · have : l = -1 := by
          have : ¬ 0 ≤ l := fun z => hge (decide_eq_true z)
          omega
        refine ⟨_, rfl, ?_⟩
        exact k _ x (Same.refl _) ⟨h1 this, h28, hw⟩

/-! ### _law_room -/
def spRoom (K : PySem.W.Frag) : Sp := fun vs H Q _ => ∃ (a : Addr) (ns : List Int) (m b : Int), vs = [.ref a, .int m, .int b] ∧ SqL K H a (ns.map V.int) ∧ ns.length ≤ 63 ∧ ∀ H' : Hp, Same H H' → Q (.int m) H'
theorem scRoom : FnScope ["_law_script", "_law_most", "_law_bound"] ["_law_script", "_law_most", "_law_bound"] (defScope sRoom) := ⟨rfl, rfl, rfl, by decide +kernel, rfl, by decide +kernel, by decide +kernel⟩
theorem ok_room {f : Addr} {fd : FuncData} (F : Fun K "_law_room" "_law_room" sRoom f fd) (T : Txt mg) : FnOk P w K mg base CX0 3 f fd ["_law_script", "_law_most", "_law_bound"] (spRoom K) := by
  refine F.ok scRoom (fun vs H Q E h => ?_) (fun cdv A outer s H vs Q E hr h => ?_)
  · obtain ⟨a, ns, m, b, rfl, _⟩ := h
    rfl
  · obtain ⟨a, ns, m, b, rfl, hS, hl, k⟩ := h
    refine ⟨_, (pss_cons (ps_if (pt_cmpR op_gt (pe_callB call_len_seq rfl T.len bt_len (pa_cons (pv 0) pa_nil)) pe_int (nomark _))
        (pss_one (ps_ret (pv 2)))
        pss_nil)
      (pss_one (ps_ret (pv 1)))), ?_⟩
    refine ⟨_, rfl, a, _, rfl, .inl hS, _, _, rfl, rfl, _, rfl, ?_⟩
    refine ite2 (fun h => ?_) (fun _ => ?_)
    · exfalso
      have := of_decide_eq_true h
      rw [List.length_map] at this
      omega
    · exact ⟨_, rfl, k H (Same.refl H)⟩

end
end K11
namespace K11
open PySem L2 TT
theorem knots_grow (m : Str) (ts : List Tr) (n : Nat) : knotsOf (ts.take n ++ [Tr.node m (ts.drop n)]) = knotsOf ts + 1 := by
  have e := knotsOf_append (ts.take n) (ts.drop n)
  rw [List.take_append_drop] at e
  rw [knotsOf_append, knotsOf, Tr.knots, knotsOf, e]
  omega
theorem words_grow {m : Str} {ts : List Tr} (n : Nat) (hm : Word m) (h : wordsOf ts) : wordsOf (ts.take n ++ [Tr.node m (ts.drop n)]) := by
  rw [wordsOf_iff] at h ⊢
  intro t ht
  rcases List.mem_append.mp ht with q | q
  · exact h t (List.mem_of_mem_take q)
  · have e : t = Tr.node m (ts.drop n) := by simpa using q
    subst e
    exact ⟨hm, wordsOf_iff.mpr fun u hu => h u (List.mem_of_mem_drop hu)⟩
theorem words_perm {a b : List Tr} (h : a.Perm b) (w : wordsOf a) : wordsOf b := wordsOf_iff.mpr fun t ht => wordsOf_iff.mp w t (h.mem_iff.mpr ht)
section
variable {P : Program} {w : World} {K : PySem.W.Frag} {mg : Str → Option Value} {base : Heap}
/-! ### _law_drawn_row -/
def spDrawn : Sp := fun vs H Q _ => ∃ (G : Hp) (c : Addr) (ns : List Int), vs = [.ref c] ∧ Same G H ∧ G c = some (.lst (ns.map V.int)) ∧ ns.length ≤ 1000 ∧
  ∀ (G' H' : Hp) (r : V) (ts : List Tr), Ext G H G' H' → Rep G' r (rowD ts) → knotsOf ts ≤ ns.length → wordsOf ts → Q r H'
theorem scDrawn : FnScope ["_law_cells", "_law_row", "_law_j", "_law_cell", "_law_mark", "_law_many"] ["_law_cells"] (defScope sDrawn) := ⟨rfl, rfl, rfl, by decide +kernel, rfl, by decide +kernel, by decide +kernel⟩
theorem ok_drawn {f : Addr} {fd : FuncData} (F : Fun K "_law_drawn_row" "_law_drawn_row" sDrawn f fd) (T : Txt mg) (F_word : Ok1 P w K mg base 3 "_law_any_word" ["_law_cell"] spWord) : FnOk P w K mg base CX0 5 f fd ["_law_cells"] spDrawn := by
  refine F.ok scDrawn (fun vs H Q E h => ?_) (fun cdv A outer s H vs Q E hr h => ?_)
  · obtain ⟨G, c, ns, rfl, _⟩ := h
    rfl
  · obtain ⟨G, c, ns, rfl, sm, hc, hns, k⟩ := h
    have nd := scDrawn.nd
    refine ⟨_, (pss_cons (ps_set (i := 1) nd rfl (Or.inl rfl) (pe_lst pa_nil))
      (pss_cons (ps_for PassesOwn.never rfl (pi_range1 rfl T.range (pa_cons (pe_callB call_len_seq rfl T.len bt_len (pa_cons (pv 0) pa_nil)) pa_nil)) (pg_name (i := 2) nd rfl (Or.inl rfl))
        (pss_cons (ps_set (i := 3) nd rfl (Or.inl rfl) (pe_ix ix_list (pv 0) (pv 2) (fun _ _ => rfl)))
        (pss_cons (ps_set (i := 4) nd rfl (Or.inl rfl) (pe_ix ix_list (pe_lst (pa_cons pe_str (pa_cons pe_str (pa_cons pe_str (pa_cons pe_str pa_nil))))) (pe_op op_mod (pe_op op_fdiv (pv 3) pe_int) pe_int) (fun _ _ => rfl)))
        (pss_cons (ps_ifM (pt_cmpR op_eq (pe_op op_mod (pv 3) pe_int) pe_int (nomark _))
          (pss_one (ps_set (i := 4) nd rfl (Or.inl rfl) (pe_fn F_word (hr.mono (by decide)) rfl (pa_cons (pe_op op_fdiv (pv 3) pe_int) pa_nil))))
          pss_nil)
        (pss_cons (ps_set (i := 5) nd rfl (Or.inl rfl) (pe_callB (call_min2 rfl) rfl T.min bt_min (pa_cons (pe_ix ix_list (pe_lst (pa_cons pe_int (pa_cons pe_int (pa_cons pe_int (pa_cons pe_int (pa_cons pe_int (pa_cons pe_int (pa_cons pe_int pa_nil)))))))) (pe_op op_mod (pv 3) pe_int) (fun _ _ => rfl)) (pa_cons (pe_callB call_len_seq rfl T.len bt_len (pa_cons (pv 1) pa_nil)) pa_nil))))
        (pss_cons (ps_set (i := 1) nd rfl (Or.inl rfl) (pe_op op_cat (pe_slice sl_list (pv 1) po_none (po_some (pe_op op_sub (pe_callB call_len_seq rfl T.len bt_len (pa_cons (pv 1) pa_nil)) (pv 5)))) (pe_lst (pa_cons (pe_callTy call_tuple_of rfl T.tuple bt_tuple (pa_cons (pe_op op_cat (pe_lst (pa_cons (pv 4) pa_nil)) (pe_slice sl_list (pv 1) (po_some (pe_op op_sub (pe_callB call_len_seq rfl T.len bt_len (pa_cons (pv 1) pa_nil)) (pv 5))) po_none)) pa_nil)) pa_nil))))
        (pss_one (ps_if (pt_cmpR op_eq (pe_op op_mod (pe_op op_fdiv (pe_ix ix_list (pv 0) (pe_op op_mod (pe_op op_add (pv 2) pe_int) (pe_callB call_len_seq rfl T.len bt_len (pa_cons (pv 0) pa_nil))) (fun _ _ => rfl)) pe_int) pe_int) pe_int (nomark _))
          (pss_one (ps_set (i := 1) nd rfl (Or.inl rfl) (pe_op op_cat (pe_slice sl_list (pv 1) (po_some (pe_un un_neg pe_int)) po_none) (pe_slice sl_list (pv 1) po_none (po_some (pe_un un_neg pe_int))))))
          pss_nil))))))))
      (pss_one (ps_ret (pv 1))))), ?_⟩
    have hcl : (ns.map V.int).length = ns.length := List.length_map ..
    have big := line_big
    -- _law_row = []
    refine ⟨Nat.zero_le _, fun p0 hp0 => ?_⟩
    have x0 : Ext G H (upd G p0 (.lst [])) (upd H p0 (.lst [])) := Ext.add sm hp0
    -- for _law_j in range(len(_law_cells))
    refine ⟨_, rfl, c, _, rfl, .inl (SqL.of (x0.h _ _ (sm _ _ hc))), _, rfl, by rw [hcl]; omega, by rw [hcl]; omega, for_range
      (fun i σ H2 => ∃ (G2 : Hp) (rv : V) (ts : List Tr) (v2 v3 v4 v5 : Option V), σ = [some (.ref c), some rv, v2, v3, v4, v5] ∧ Ext G H G2 H2 ∧ Rep G2 rv (rowD ts) ∧ knotsOf ts ≤ i ∧ wordsOf ts)
      ⟨_, .ref p0, [], none, none, none, none, rfl, x0, .lst upd_same .nil, Nat.le_refl _, trivial⟩ ?_ ?_⟩
    · rintro i σ H2 hi ⟨G2, rv, ts, v2, v3, v4, v5, rfl, x, rr, hk, hw⟩
      have hin : i < ns.length := by rw [hcl] at hi; simpa using hi
      have hc2 : H2 c = some (.lst (ns.map V.int)) := x.h _ _ (sm _ _ hc)
      have hcell : atI (ns.map V.int) (0 + (i : Int)) = some (.int ns[i]) := by rw [Int.zero_add]; exact ints_ix hin
      obtain ⟨ra, tvs, rfl, hra, rts⟩ := rr.row
      have hlen := rts.length
      rw [List.length_map] at hlen
      have hlk := length_le_knots ts
      -- cell; mark
      refine ⟨_, rfl, _, rfl, c, _, _, _, rfl, rfl, SqL.of hc2, hcell, ?_⟩
      obtain ⟨m0, hm0, wm0⟩ := four_words (ns[i] / 4)
      refine ⟨by show 4 ≤ sizeLine; decide, fun p1 hp1 => ⟨_, rfl, _, _, rfl, rfl, ⟨by decide, by decide⟩, _, _, rfl, rfl, (by show (0 : Int) < 4; decide), p1, _, _, _, rfl, rfl, SqL.of upd_same, hm0, ?_⟩⟩
      have x1 := x.trans (Ext.tmp (o := .lst [V.str (Str.ofString "sab"), V.str (Str.ofString "tab"), V.str (Str.ofString "sob"), V.str (Str.ofString "sat")]) x.gh hp1)
      -- if cell % 11 == 8
      refine ⟨fun σ' H' => ∃ m : Str, σ' = [some (.ref c), some (.ref ra), some (.int (0 + (i : Int))), some (.int ns[i]), some (.str m), v5] ∧ Word m ∧ Ext G H G2 H', ?_, ?_⟩
      · refine ⟨_, rfl, _, _, rfl, rfl, (by show (0 : Int) < 11; decide), rfl, _, rfl, ?_⟩
        refine ite2 (fun _ => ?_) (fun _ => ?_)
        · refine ⟨_, rfl, _, _, rfl, rfl, ⟨by decide, by decide⟩, _, rfl, fun H4 y sm4 wy => ?_⟩
          exact ⟨y, rfl, wy, ⟨x1.g, x1.gh.trans sm4, x1.h.trans sm4, x1.new⟩⟩
        · exact ⟨m0, rfl, wm0, x1⟩
      · rintro σ' H3 ⟨m, rfl, wm, x3⟩
        have hra3 : H3 ra = some (.lst tvs) := x3.gh _ _ hra
        -- many
        obtain ⟨k7, hk7⟩ := seven_ints ns[i]
        refine ⟨by show 7 ≤ sizeLine; decide, fun p2 hp2 => ⟨_, rfl, _, _, rfl, rfl, (by show (0 : Int) < 7; decide), p2, _, _, _, rfl, rfl, SqL.of upd_same, hk7, _, rfl, ra, tvs, rfl, .inl (SqL.of (same_upd hp2 _ _ hra3)), _, _, rfl, ?_⟩⟩
        have x4 := x3.trans (Ext.tmp (o := .lst [V.int 0, V.int 0, V.int 1, V.int 1, V.int 2, V.int 3, V.int 4]) x3.gh hp2)
        obtain ⟨mn, hmn, hml⟩ : ∃ mn : Nat, (if (tvs.length : Int) < (k7 : Int) then (tvs.length : Int) else (k7 : Int)) = (mn : Int) ∧ mn ≤ tvs.length := by
          by_cases h : (tvs.length : Int) < (k7 : Int)
          · exact ⟨tvs.length, by rw [if_pos h], Nat.le_refl _⟩
          · exact ⟨k7, by rw [if_neg h], by omega⟩
        rw [hmn]
        have hsub : (tvs.length : Int) - (mn : Int) = ((tvs.length - mn : Nat) : Int) := by omega
        have hra4 := x4.gh _ _ hra
        -- row[:len(row) - many]
        refine ⟨_, rfl, _, rfl, ra, tvs, rfl, .inl (SqL.of hra4), _, rfl, _, _, rfl, rfl, _, rfl, ra, tvs, rfl, SqL.of hra4, fun p3 hp3 => ?_⟩
        rw [hsub, cut_to]
        have x5 := x4.trans (Ext.tmp (o := .lst (tvs.take (tvs.length - mn))) x4.gh hp3)
        have hra5 := x5.gh _ _ hra
        -- [mark] + row[len(row) - many:]
        refine ⟨_, rfl, (by show 1 ≤ sizeLine; decide), fun p4 hp4 => ?_⟩
        have x6 := x5.trans (Ext.tmp (o := .lst [V.str m]) x5.gh hp4)
        have hra6 := x6.gh _ _ hra
        refine ⟨_, rfl, _, rfl, ra, tvs, rfl, .inl (SqL.of hra6), _, rfl, _, _, rfl, rfl, _, rfl, ra, tvs, rfl, SqL.of hra6, fun p5 hp5 => ?_⟩
        rw [hsub, cut_from]
        have x7 := x6.trans (Ext.tmp (o := .lst (tvs.drop (tvs.length - mn))) x6.gh hp5)
        refine ⟨p4, p5, _, _, rfl, rfl, same_upd hp5 _ _ upd_same, upd_same, (by rw [List.length_drop]; show 1 + _ ≤ sizeLine; omega), fun p6 hp6 => ?_⟩
        have x8 := x7.trans (Ext.tmp (o := .lst ([V.str m] ++ tvs.drop (tvs.length - mn))) x7.gh hp6)
        refine ⟨p6, _, rfl, .inl ⟨SqL.of upd_same, fun p7 hp7 => ?_⟩⟩
        have x9 := x8.trans (Ext.add (o := .tup ([V.str m] ++ tvs.drop (tvs.length - mn))) x8.gh hp7)
        refine ⟨by show 1 ≤ sizeLine; decide, fun p8 hp8 => ?_⟩
        have x10 := x9.trans (Ext.tmp (o := .lst [V.ref p7]) x9.gh hp8)
        have h38 : upd (upd (upd (upd (upd (upd (upd H3 p2 (.lst [V.int 0, V.int 0, V.int 1, V.int 1, V.int 2, V.int 3, V.int 4])) p3 (.lst (tvs.take (tvs.length - mn)))) p4 (.lst [V.str m])) p5 (.lst (tvs.drop (tvs.length - mn)))) p6 (.lst ([V.str m] ++ tvs.drop (tvs.length - mn)))) p7 (.tup ([V.str m] ++ tvs.drop (tvs.length - mn)))) p8 (.lst [V.ref p7]) p3 = some (.lst (tvs.take (tvs.length - mn))) :=
          same_upd hp8 _ _ (same_upd hp7 _ _ (same_upd hp6 _ _ (same_upd hp5 _ _ (same_upd hp4 _ _ upd_same))))
        refine ⟨p3, p8, _, _, rfl, rfl, h38, upd_same, (by rw [List.length_take]; show _ + 1 ≤ sizeLine; omega), fun p9 hp9 => ?_⟩
        have x11 := x10.trans (Ext.add (o := .lst (tvs.take (tvs.length - mn) ++ [V.ref p7])) x10.gh hp9)
        -- the row that stands now
        have s7 : Same G2 (upd G2 p7 (.tup ([V.str m] ++ tvs.drop (tvs.length - mn)))) := same_upd (x8.gh.none hp7)
        have s9 : Same (upd G2 p7 (.tup ([V.str m] ++ tvs.drop (tvs.length - mn)))) (upd (upd G2 p7 (.tup ([V.str m] ++ tvs.drop (tvs.length - mn)))) p9 (.lst (tvs.take (tvs.length - mn) ++ [V.ref p7]))) := same_upd (x10.gh.none hp9)
        have R : Rep (upd (upd G2 p7 (.tup ([V.str m] ++ tvs.drop (tvs.length - mn)))) p9 (.lst (tvs.take (tvs.length - mn) ++ [V.ref p7]))) (.ref p9) (rowD (ts.take (tvs.length - mn) ++ [Tr.node m (ts.drop (tvs.length - mn))])) := by
          refine .lst upd_same ?_
          rw [List.map_append, List.map_take]
          refine ((rts.take _).mono (s7.trans s9)).append (.cons ?_ .nil)
          rw [tree_d]
          refine .tup (s9 _ _ upd_same) (.cons (.str m) ?_)
          show Reps _ _ ((ts.drop (tvs.length - mn)).map Tr.d)
          rw [List.map_drop]
          exact (rts.drop _).mono (s7.trans s9)
        have hkn := knots_grow m ts (tvs.length - mn)
        have hwn := words_grow (tvs.length - mn) wm hw
        have hc11 := x11.h _ _ (sm _ _ hc)
        have h9 := x11.gh _ _ (upd_same (H := upd G2 p7 (.tup ([V.str m] ++ tvs.drop (tvs.length - mn)))) (a := p9) (o := .lst (tvs.take (tvs.length - mn) ++ [V.ref p7])))
        generalize tvs.take (tvs.length - mn) ++ [V.ref p7] = rvs at *
        generalize ts.take (tvs.length - mn) ++ [Tr.node m (ts.drop (tvs.length - mn))] = rs at *
        have hpos : (0 : Int) < ((ns.map V.int).length : Int) := by rw [hcl]; omega
        have hm1 : 0 ≤ (0 + (i : Int) + 1) % ((ns.map V.int).length : Int) := Int.emod_nonneg _ (by omega)
        have hm2 : (0 + (i : Int) + 1) % ((ns.map V.int).length : Int) < ((ns.map V.int).length : Int) := Int.emod_lt_of_pos _ hpos
        obtain ⟨nx, hnx⟩ := ints_ixI (ns := ns) hm1 (by rw [hcl] at hm2 ⊢; exact hm2)
        -- if cells[(j + 1) % len(cells)] // 3 % 4 == 1
        refine ⟨_, rfl, _, rfl, _, _, rfl, rfl, _, rfl, c, _, rfl, .inl (SqL.of hc11), _, _, rfl, rfl, hpos, c, _, _, _, rfl, rfl, SqL.of hc11, hnx, _, _, rfl, rfl, ⟨by decide, by decide⟩, _, _, rfl, rfl, (by show (0 : Int) < 4; decide), rfl, _, rfl, ?_⟩
        refine ite2 (fun _ => ?_) (fun _ => ?_)
        · obtain ⟨_, rvs', e9, hg9, rrs⟩ := R.row
          cases e9
          rw [upd_same] at hg9
          cases hg9
          have hrl := rrs.length
          rw [List.length_map] at hrl
          have hrk := length_le_knots rs
          refine ⟨_, rfl, _, rfl, _, rfl, p9, rvs, rfl, SqL.of h9, fun q1 h1 => ?_⟩
          rw [cut_last]
          have x12 := x11.trans (Ext.tmp (o := .lst (rvs.drop (rvs.length - 1))) x11.gh h1)
          refine ⟨_, rfl, _, rfl, _, rfl, p9, rvs, rfl, SqL.of (same_upd h1 _ _ h9), fun q2 h2 => ?_⟩
          rw [cut_front]
          have x13 := x12.trans (Ext.tmp (o := .lst (rvs.take (rvs.length - 1))) x12.gh h2)
          refine ⟨q1, q2, _, _, rfl, rfl, same_upd h2 _ _ upd_same, upd_same, (by rw [List.length_drop, List.length_take]; omega), fun q3 h3 => ?_⟩
          have x14 := x13.trans (Ext.add (o := .lst (rvs.drop (rvs.length - 1) ++ rvs.take (rvs.length - 1))) x13.gh h3)
          have hpm : (rs.drop (rvs.length - 1) ++ rs.take (rvs.length - 1)).Perm rs := by
            have := List.perm_append_comm (l₁ := rs.drop (rvs.length - 1)) (l₂ := rs.take (rvs.length - 1))
            rwa [List.take_append_drop] at this
          refine ⟨_, .ref q3, rs.drop (rvs.length - 1) ++ rs.take (rvs.length - 1), _, _, _, _, rfl, x14, .lst upd_same ?_, ?_, words_perm hpm.symm hwn⟩
          · rw [List.map_append, List.map_drop, List.map_take]
            exact ((rrs.drop _).append (rrs.take _)).mono (same_upd (x13.gh.none h3))
          · rw [knotsOf_perm hpm]; omega
        · exact ⟨_, .ref p9, rs, _, _, _, _, rfl, x11, R, by omega, hwn⟩
    · rintro σ H2 ⟨G2, rv, ts, v2, v3, v4, v5, rfl, x, rr, hk, hw⟩
      rw [hcl, Int.toNat_natCast] at hk
      exact ⟨_, rfl, k G2 H2 rv ts x rr hk hw⟩
end
end K11
namespace K11
open PySem L2 TT TX
def alpha : Str := Str.ofString "abcdefghijklmnopqrstuvwxyz"
def nbV : List V := [V.str (Str.ofString "aa"), V.str (Str.ofString "a("), V.str (Str.ofString "a)"), V.str (Str.ofString "a "), V.str (Str.ofString "(a"), V.str (Str.ofString "))"), V.str (Str.ofString ") "), V.str (Str.ofString " a")]
/-- the constants of the text -/
structure Cst (K : PySem.W.Frag) (mg : Str → Option Value) (tL : Tok) (NA : Addr) : Prop where
  lt : mg "LETTERS" = some (.str alpha tL)
  nb : mg "NEIGHBOURS" = some (.ref NA)
  sq : ∀ H : Hp, SqT K H NA nbV
theorem in_alpha (c : Nat) : (!(Builtin.Str.occurrences alpha ⟨#[c]⟩ 0 alpha.length 1).isEmpty) = low c := by
  rw [StrLaws.found_one]
  have e : alpha.cps.toList = List.range' 97 26 := by decide +kernel
  rw [e, Bool.eq_iff_iff, decide_eq_true_iff, List.mem_range'_1, low, Bool.and_eq_true, decide_eq_true_iff, decide_eq_true_iff]
  omega
theorem two_eq (s : String) {a b : Nat} (e : Str.ofString s = ⟨#[a, b]⟩) (p k : Nat) : (Str.ofString s == (⟨#[p]⟩ : Str) ++ ⟨#[k]⟩) = (p == a && k == b) := by
  rw [e, Bool.eq_iff_iff, beq_iff_eq, Bool.and_eq_true, beq_iff_eq, beq_iff_eq]
  constructor
  · intro h
    have h2 := congrArg (fun x : Str => x.cps.toList) h
    have h3 : [a, b] = [p, k] := h2
    injection h3 with h4 h5
    injection h5 with h6 _
    exact ⟨h4.symm, h6.symm⟩
  · rintro ⟨rfl, rfl⟩
    rfl
theorem in_nb (p k : Nat) : inV (.str ((⟨#[p]⟩ : Str) ++ ⟨#[k]⟩)) nbV = okL p k := by
  have e1 := two_eq "aa" (a := 97) (b := 97) (by decide +kernel) p k
  have e2 := two_eq "a(" (a := 97) (b := 40) (by decide +kernel) p k
  have e3 := two_eq "a)" (a := 97) (b := 41) (by decide +kernel) p k
  have e4 := two_eq "a " (a := 97) (b := 32) (by decide +kernel) p k
  have e5 := two_eq "(a" (a := 40) (b := 97) (by decide +kernel) p k
  have e6 := two_eq "))" (a := 41) (b := 41) (by decide +kernel) p k
  have e7 := two_eq ") " (a := 41) (b := 32) (by decide +kernel) p k
  have e8 := two_eq " a" (a := 32) (b := 97) (by decide +kernel) p k
  unfold inV nbV
  simp only [List.any_cons, List.any_nil, eqV, e1, e2, e3, e4, e5, e6, e7, e8]
  rw [Bool.eq_iff_iff]
  simp only [okL, Bool.or_eq_true, Bool.and_eq_true, beq_iff_eq, Bool.or_false, Bool.false_eq_true, or_false]
  omega
theorem p40 : Str.ofString "(" = ⟨#[40]⟩ := by decide +kernel
theorem p41 : Str.ofString ")" = ⟨#[41]⟩ := by decide +kernel
theorem p97 : Str.ofString "a" = ⟨#[97]⟩ := by decide +kernel
theorem p32 : Str.ofString " " = ⟨#[32]⟩ := by decide +kernel
section
variable {P : Program} {w : World} {K : PySem.W.Frag} {mg : Str → Option Value} {base : Heap}
/-! ### neighbours_fit -/
def spNbr : Sp := fun vs H Q _ => ∃ z : Str, vs = [.str z] ∧ asc z ∧ z.length ≤ 10000 ∧ Q (.bl (nbr 40 (z.cps.toList ++ [41]))) H
theorem scNbr : FnScope ["line", "ahead", "sign", "kind"] ["line"] (defScope sNbr) := ⟨rfl, rfl, rfl, by decide +kernel, rfl, by decide +kernel, by decide +kernel⟩
theorem ok_nbr {tL : Tok} {NA : Addr} {f : Addr} {fd : FuncData} (F : Fun K "neighbours_fit" "neighbours_fit" sNbr f fd) (C : Cst K mg tL NA) : FnOk P w K mg base CX0 3 f fd ["line"] spNbr := by
  refine F.ok scNbr (fun vs H Q E h => ?_) (fun cdv A outer s H vs Q E hr h => ?_)
  · obtain ⟨z, rfl, _⟩ := h
    rfl
  · obtain ⟨z, rfl, ha, hl, k⟩ := h
    have nd := scNbr.nd
    have big := line_big
    refine ⟨_, (pss_cons (ps_set (i := 1) nd rfl (Or.inl rfl) pe_str)
      (pss_cons (ps_for PassesOwn.never rfl (pi_str (pe_op op_add_str (pv 0) pe_str)) (pg_name (i := 2) nd rfl (Or.inl rfl))
        (pss_cons (ps_set (i := 3) nd rfl (Or.inl rfl) (pe_ifExp (pt_cmpR op_in_str (pv 2) (pe_glob (v := .str alpha) rfl C.lt ⟨_, rfl⟩) (by with_unfolding_all rfl)) pe_str (pv 2)))
        (pss_cons (ps_if (pt_cmpR op_notIn_seq (pe_op op_add_str (pv 1) (pv 3)) (pe_glob (v := .ref NA) rfl C.nb rfl) (by with_unfolding_all rfl))
          (pss_one (ps_ret pe_bl))
          pss_nil)
        (pss_one (ps_set (i := 1) nd rfl (Or.inl rfl) (pv 3))))))
      (pss_one (ps_ret pe_bl)))), ?_⟩
    have e41 : (z ++ Str.ofString ")").cps.toList = z.cps.toList ++ [41] := by
      rw [p41, Str.cps_append, Array.toList_append]
    refine ⟨_, rfl, _, _, rfl, rfl, ?_, _, rfl, ?_, for_str (fun a r σ H2 => ∃ (p : Nat) (v2 v3 : Option V), σ = [some (.str z), some (.str ⟨#[p]⟩), v2, v3] ∧ H2 = H ∧ nbr 40 (z.cps.toList ++ [41]) = nbr p r)
      ⟨40, none, none, by rw [← p40]; rfl, rfl, by rw [e41]⟩ ?_ ?_⟩
    · show z.length + 1 ≤ sizeLine
      omega
    · intro c hc
      rw [e41, List.mem_append] at hc
      rcases hc with hc | hc
      · exact ha c hc
      · rw [List.mem_singleton.mp hc]; decide
    · rintro a c r σ H2 hx ⟨p, v2, v3, rfl, rfl, e⟩
      refine ⟨_, rfl, _, _, rfl, rfl, _, rfl, ?_⟩
      rw [in_alpha]
      refine ite2 (fun hl => ?_) (fun hl => ?_)
      · have hk := kind_low hl
        refine ⟨_, rfl, _, rfl, _, _, rfl, rfl, (by show 1 + 1 ≤ sizeLine; omega), NA, nbV, rfl, .inr (C.sq _), rfl, (by decide +kernel), !okL p 97, (by rw [if_pos rfl, p97, in_nb]), ?_⟩
        rw [nbr, hk] at e
        cases ho : okL p 97 with
        | false =>
          rw [ho] at e
          rw [e] at k
          exact iteT k
        | true =>
          rw [ho] at e
          exact iteF ⟨_, rfl, 97, _, _, rfl, rfl, e⟩
      · have hk := kind_not hl
        refine ⟨_, rfl, ?_⟩
        refine ⟨_, rfl, _, rfl, _, _, rfl, rfl, (by show 1 + 1 ≤ sizeLine; omega), NA, nbV, rfl, .inr (C.sq _), rfl, (by decide +kernel), !okL p c, (by rw [if_pos rfl, in_nb]), ?_⟩
        rw [nbr, hk] at e
        cases ho : okL p c with
        | false =>
          rw [ho] at e
          rw [e] at k
          exact iteT k
        | true =>
          rw [ho] at e
          exact iteF ⟨_, rfl, c, _, _, rfl, rfl, e⟩
    · rintro σ H2 ⟨p, v2, v3, rfl, rfl, e⟩
      rw [nbr] at e
      rw [e] at k
      exact k
end
end K11
namespace K11
open PySem L2 TT TX
theorem one_eq {s : String} {a : Nat} (e : Str.ofString s = ⟨#[a]⟩) (c : Nat) : decide (V.str ⟨#[c]⟩ = V.str (Str.ofString s)) = decide (c = a) := by
  rw [e, Bool.eq_iff_iff, decide_eq_true_iff, decide_eq_true_iff]
  constructor
  · intro h
    injection h with h
    have h2 := congrArg (fun x : Str => x.cps.toList) h
    have h3 : [c] = [a] := h2
    injection h3
  · rintro rfl
    rfl
section
variable {P : Program} {w : World} {K : PySem.W.Frag} {mg : Str → Option Value} {base : Heap}
/-! ### brackets_fit -/
def spBrk : Sp := fun vs H Q _ => ∃ z : Str, vs = [.str z] ∧ asc z ∧ Q (.bl (brk 0 z.cps.toList)) H
theorem scBrk : FnScope ["line", "depth", "sign"] ["line"] (defScope sBrk) := ⟨rfl, rfl, rfl, by decide +kernel, rfl, by decide +kernel, by decide +kernel⟩
theorem ok_brk {f : Addr} {fd : FuncData} (F : Fun K "brackets_fit" "brackets_fit" sBrk f fd) : FnOk P w K mg base CX0 3 f fd ["line"] spBrk := by
  refine F.ok scBrk (fun vs H Q E h => ?_) (fun cdv A outer s H vs Q E hr h => ?_)
  · obtain ⟨z, rfl, _⟩ := h
    rfl
  · obtain ⟨z, rfl, ha, k⟩ := h
    have nd := scBrk.nd
    refine ⟨_, (pss_cons (ps_set (i := 1) nd rfl (Or.inl rfl) pe_int)
      (pss_cons (ps_for PassesOwn.never rfl (pi_str (pv 0)) (pg_name (i := 2) nd rfl (Or.inl rfl))
        (pss_cons (ps_ifM (pt_cmpR op_eq (pv 2) pe_str (nomark _))
          (pss_one (ps_aug (i := 1) nd rfl (Or.inl rfl) pe_int ip_add))
          pss_nil)
        (pss_cons (ps_ifM (pt_cmpR op_eq (pv 2) pe_str (nomark _))
          (pss_one (ps_aug (i := 1) nd rfl (Or.inl rfl) pe_int ip_sub))
          pss_nil)
        (pss_one (ps_if (pt_cmpR op_lt (pv 1) pe_int (nomark _))
          (pss_one (ps_ret pe_bl))
          pss_nil)))))
      (pss_one (ps_ret (pe_cmpR op_eq (pv 1) pe_int (nomark _)))))), ?_⟩
    refine ⟨_, rfl, _, rfl, ha, for_str (fun a r σ H2 => ∃ (d : Int) (v2 : Option V), σ = [some (.str z), some (.int d), v2] ∧ H2 = H ∧ brk 0 z.cps.toList = brk d r)
      ⟨0, none, rfl, rfl, rfl⟩ ?_ ?_⟩
    · rintro a c r σ H2 hx ⟨d, v2, rfl, rfl, e⟩
      refine ⟨fun σ' H' => σ' = [some (.str z), some (.int (if c = 40 then d + 1 else d)), some (.str ⟨#[c]⟩)] ∧ H' = H2, ?_, ?_⟩
      · refine ⟨_, rfl, rfl, decide (c = 40), (by rw [one_eq p40]), ?_⟩
        refine ite2 (fun h => ?_) (fun h => ?_)
        · have h := of_decide_eq_true h
          exact ⟨_, rfl, _, _, rfl, rfl, by rw [if_pos h]; rfl, rfl⟩
        · have h := fun z => h (decide_eq_true z)
          exact ⟨by rw [if_neg h]; rfl, rfl⟩
      rintro σ' H1 ⟨rfl, rfl⟩
      refine ⟨fun σ' H' => σ' = [some (.str z), some (.int (dep d c)), some (.str ⟨#[c]⟩)] ∧ H' = H1, ?_, ?_⟩
      · refine ⟨_, rfl, rfl, decide (c = 41), (by rw [one_eq p41]), ?_⟩
        refine ite2 (fun h => ?_) (fun h => ?_)
        · have h := of_decide_eq_true h
          subst h
          exact ⟨_, rfl, _, _, rfl, rfl, rfl, rfl⟩
        · have h := fun z => h (decide_eq_true z)
          refine ⟨?_, rfl⟩
          by_cases h0 : c = 40
          · rw [dep, if_pos h0, if_pos h0]
          · rw [dep, if_neg h0, if_neg h0, if_neg h]
      rintro σ' H' ⟨rfl, rfl⟩
      refine ⟨_, rfl, _, _, rfl, rfl, _, rfl, ?_⟩
      rw [brk] at e
      refine ite2 (fun h => ?_) (fun h => ?_)
      · have h := of_decide_eq_true h
        rw [decide_eq_false (by omega), Bool.false_and] at e
        rw [e] at k
        exact k
      · have h : ¬ dep d c < 0 := fun z => h (decide_eq_true z)
        rw [decide_eq_true (by omega), Bool.true_and] at e
        exact ⟨_, _, rfl, rfl, e⟩
    · rintro σ H2 ⟨d, v2, rfl, rfl, e⟩
      rw [brk] at e
      rw [e] at k
      refine ⟨_, rfl, rfl, ?_⟩
      have ed : decide (V.int d = V.int 0) = decide (d = 0) := by
        rw [Bool.eq_iff_iff, decide_eq_true_iff, decide_eq_true_iff]
        exact ⟨fun h => by injection h, fun h => by rw [h]⟩
      rw [ed]
      exact k
end
end K11
namespace K11
open PySem L2 TT TX
theorem str_eq {s : String} {a : Str} (e : Str.ofString s = a) (w : Str) : decide (V.str w = V.str (Str.ofString s)) = decide (w = a) := by
  rw [e, Bool.eq_iff_iff, decide_eq_true_iff, decide_eq_true_iff]
  exact ⟨fun h => by injection h, fun h => by rw [h]⟩
theorem reps_snoc {G : Hp} {vs : List V} {ds : List D} {d : D} (r : Reps G vs (ds ++ [d])) : ∃ t0 y, vs = t0 ++ [y] ∧ Reps G t0 ds ∧ Rep G y d := by
  have hl := r.length
  rw [List.length_append, List.length_singleton] at hl
  have hd : vs.isEmpty = false := by
    cases vs with
    | nil => simp at hl
    | cons _ _ => rfl
  obtain ⟨t0, y, rfl⟩ := last_of vs hd
  rw [List.length_append, List.length_singleton] at hl
  have h0 : t0.length = ds.length := by omega
  refine ⟨t0, y, rfl, ?_, ?_⟩
  · have := r.take t0.length
    rwa [List.take_left, h0, List.take_left] at this
  · have := r.drop t0.length
    rw [List.drop_left, h0, List.drop_left] at this
    cases this with
    | cons r _ => exact r
theorem atI_last {α : Type} (l : List α) (y : α) : atI (l ++ [y]) (-1) = some y := by
  unfold atI ixN
  rw [if_neg (by decide), if_pos (by rw [List.length_append, List.length_singleton]; omega)]
  have e : ((-1 : Int) + ((l ++ [y]).length : Int)).toNat = l.length := by rw [List.length_append, List.length_singleton]; omega
  rw [Option.bind_some, e]
  simp
theorem step_close {lv lv' : List (List Tr)} (h : lvStep lv ⟨#[41]⟩ = some lv') : ∃ ts r0 t fs, lv = ts :: (r0 ++ [t]) :: fs ∧ lv' = (r0 ++ [.node t.mark ts]) :: fs := by
  rw [lvStep.eq_def, if_neg (by decide), if_pos rfl] at h
  match lv, h with
  | ts :: row :: fs, h =>
    dsimp only at h
    split at h
    · rename_i t ht
      have hrow : row = row.dropLast ++ [t] := by
        have hne : row ≠ [] := by rintro rfl; cases ht
        rw [List.getLast?_eq_some_getLast hne] at ht
        obtain rfl := Option.some.inj ht
        exact (List.dropLast_concat_getLast hne).symm
      exact ⟨ts, row.dropLast, t, fs, by rw [← hrow], (Option.some.inj h).symm⟩
    · cases h
theorem step_word {lv lv' : List (List Tr)} {w : Str} (h1 : w ≠ ⟨#[40]⟩) (h2 : w ≠ ⟨#[41]⟩) (h : lvStep lv w = some lv') : ∃ r fs, lv = r :: fs ∧ lv' = (r ++ [.node w []]) :: fs := by
  rw [lvStep.eq_def, if_neg h1, if_neg h2] at h
  match lv, h with
  | r :: fs, h => exact ⟨r, fs, rfl, (Option.some.inj h).symm⟩
/-- the levels as they lie: each a list of its own -/
inductive Lvs (G H : Hp) : List Addr → List (List Tr) → Prop
  | nil : Lvs G H [] []
  | cons {p : Addr} {tv : List V} {ts : List Tr} {ps : List Addr} {lv : List (List Tr)} (h : H p = some (.lst tv)) (r : Reps G tv (ts.map Tr.d)) (t : Lvs G H ps lv) : Lvs G H (p :: ps) (ts :: lv)
theorem Lvs.keep {G H G' H' : Hp} {ps : List Addr} {lv : List (List Tr)} (x : Lvs G H ps lv) (g : Same G G') : (∀ p ∈ ps, ∀ o, H p = some o → H' p = some o) → Lvs G' H' ps lv := by
  induction x with
  | nil => exact fun _ => .nil
  | cons h r _ ih => exact fun k => .cons (k _ List.mem_cons_self _ h) (r.mono g) (ih fun p hp => k p (List.mem_cons_of_mem _ hp))
theorem Lvs.there {G H : Hp} {ps : List Addr} {lv : List (List Tr)} (x : Lvs G H ps lv) : ∀ p ∈ ps, ∃ o, H p = some o := by
  induction x with
  | nil => exact fun _ h => nomatch h
  | cons h _ _ ih =>
    intro p hp
    rcases List.mem_cons.mp hp with rfl | hp
    · exact ⟨_, h⟩
    · exact ih p hp
theorem Lvs.one {G H : Hp} {ps : List Addr} {ts : List Tr} {lv : List (List Tr)} (x : Lvs G H ps (ts :: lv)) : ∃ p tv ps', ps = p :: ps' ∧ H p = some (.lst tv) ∧ Reps G tv (ts.map Tr.d) ∧ Lvs G H ps' lv := by
  cases x with
  | cons h r t => exact ⟨_, _, _, rfl, h, r, t⟩
abbrev G0 : Hp := fun _ => none
/-- between two words of row_of -/
inductive RowInv (H : Hp) (z : Str) (pl wa : Addr) (ws : List Str) (row : List Tr) (i : Nat) (σ : L2.St) (H2 : Hp) : Prop
  | mk (G2 : Hp) (ps : List Addr) (lv : List (List Tr)) (v2 v3 v4 : Option V) (e : σ = [some (.str z), some (.ref pl), v2, v3, v4]) (x : Ext G0 H G2 H2) (hl : H2 pl = some (.lst (ps.reverse.map V.ref))) (hw : H2 wa = some (.lst (ws.map V.str)))
      (nd : (wa :: pl :: ps).Nodup) (nG : ∀ p ∈ wa :: pl :: ps, G2 p = none ∧ H p = none) (lvs : Lvs G2 H2 ps lv) (run : lvRun lv (ws.drop i) = some [row]) (b1 : ps.length ≤ i + 1) (b2 : ∀ ts ∈ lv, ts.length ≤ i) : RowInv H z pl wa ws row i σ H2
section
variable {P : Program} {w : World} {K : PySem.W.Frag} {mg : Str → Option Value} {base : Heap}
/-! ### row_of -/
def spRowOf : Sp := fun vs H Q _ => ∃ z : Str, vs = [.str z] ∧ z.length ≤ 10000 ∧ chk 40 0 z.cps.toList = true ∧
  ∀ (G' H' : Hp) (r : V) (row : List Tr), Ext G0 H G' H' → Rep G' r (rowD row) → goods row → txts false row = z.cps.toList → Q r H'
theorem scRowOf : FnScope ["line", "levels", "word", "trees", "above"] ["line"] (defScope sRowOf) := ⟨rfl, rfl, rfl, by decide +kernel, rfl, by decide +kernel, by decide +kernel⟩
theorem ok_rowof {f : Addr} {fd : FuncData} (F : Fun K "row_of" "row_of" sRowOf f fd) (T : Txt mg) (F_mark : Ok1 P w K mg base 3 "mark_of" ["tree"] spMark) (F_knot : Ok1 P w K mg base 3 "knot" ["mark", "trees"] spKnot) :
    FnOk1 P w K mg base CX0 5 f fd ["line"] spRowOf := by
  refine fun_ok1 F scRowOf (fun vs H Q E h => ?_) (fun cdv A outer s H vs Q E hr h => ?_)
  · obtain ⟨z, rfl, _⟩ := h
    rfl
  · obtain ⟨z, rfl, hl, hc, k⟩ := h
    have nd := scRowOf.nd
    have big := line_big
    obtain ⟨row, hne, hgood, hx, hrun⟩ := read_row hc
    have hsg := chk_sgn _ _ _ hc
    refine ⟨_, (pss1_cons (PS1.of (ps_set (i := 1) nd rfl (Or.inl rfl) (pe_lst (pa_cons (pe_lst pa_nil) pa_nil))))
      (pss1_cons (ps_for1 PassesOwn.never rfl (pi_list1 (pe_bm01 PySem.F.plainAttrs_str PySem.F.slot_str_split PySem.F.type_str_split mt_split (pe_replace (pe_replace (PE1.of (pv 0)))))) (pg_name (i := 2) nd rfl (Or.inl rfl))
        (PSs1.of (pss_one (ps_if (pt_cmpR op_eq (pv 2) pe_str (nomark _))
          (pss_one (ps_expr (pe_bm PySem.F.plainAttrs_list PySem.F.slot_list_append PySem.F.type_list_append mt_append (pv 1) (pa_cons (pe_lst pa_nil) pa_nil))))
          (pss_one (ps_if (pt_cmpR op_eq (pv 2) pe_str (nomark _))
            (pss_cons (ps_set (i := 3) nd rfl (Or.inl rfl) (pe_bm0 PySem.F.plainAttrs_list PySem.F.slot_list_pop PySem.F.type_list_pop mt_pop (pv 1)))
            (pss_cons (ps_set (i := 4) nd rfl (Or.inl rfl) (pe_bm0 PySem.F.plainAttrs_list PySem.F.slot_list_pop PySem.F.type_list_pop mt_pop (pe_ix ix_list (pv 1) (pe_un un_neg pe_int) (fun _ _ => rfl))))
            (pss_one (ps_expr (pe_bm PySem.F.plainAttrs_list PySem.F.slot_list_append PySem.F.type_list_append mt_append (pe_ix ix_list (pv 1) (pe_un un_neg pe_int) (fun _ _ => rfl)) (pa_cons (pe_fn F_knot (hr.mono (by decide)) rfl (pa_cons (pe_fn F_mark (hr.mono (by decide)) rfl (pa_cons (pv 4) pa_nil)) (pa_cons (pv 3) pa_nil))) pa_nil))))))
            (pss_one (ps_expr (pe_bm PySem.F.plainAttrs_list PySem.F.slot_list_append PySem.F.type_list_append mt_append (pe_ix ix_list (pv 1) (pe_un un_neg pe_int) (fun _ _ => rfl)) (pa_cons (pe_fn F_knot (hr.mono (by decide)) rfl (pa_cons (pv 2) (pa_cons (pe_lst pa_nil) pa_nil))) pa_nil))))))))))
      (PSs1.of (pss_one (ps_ret (pe_ix ix_list (pv 1) pe_int (fun _ _ => rfl))))))), ?_⟩
    refine ⟨Nat.zero_le _, fun p0 hp0 => ⟨(by show 1 ≤ sizeLine; decide), fun pl hpl => ?_⟩⟩
    have hl1 := rep_len1 (z := z) (y1 := Str.ofString "(") (z1 := Str.ofString " ( ") (by decide +kernel) (by decide +kernel)
    have hl2 := rep_len2 (z := Txt.replace z (Str.ofString "(") (Str.ofString " ( ")) (y1 := Str.ofString ")") (z1 := Str.ofString " ) ") (by decide +kernel) (by decide +kernel)
    have hws := words_line (z := z) (y1 := Str.ofString "(") (z1 := Str.ofString " ( ") (y2 := Str.ofString ")") (z2 := Str.ofString " ) ") (by decide +kernel) (by decide +kernel) (by decide +kernel) (by decide +kernel) hsg
    refine ⟨_, rfl, _, rfl, (by omega), _, rfl, (by omega), rfl, _, rfl, rfl, (by omega), fun wa hwa => ?_⟩
    rw [hws]
    have hwl := spl_len z.cps.toList []
    have hzl : z.cps.toList.length = z.length := by simp [Str.length]
    generalize spl [] z.cps.toList = ws at hrun hwl ⊢
    have x0 : Ext G0 H G0 H := Ext.refl (fun _ _ e => nomatch e)
    have x1 := x0.trans (Ext.tmp (o := .lst []) x0.gh hp0)
    have x2 := x1.trans (Ext.tmp (o := .lst [V.ref p0]) x1.gh hpl)
    have x3 := x2.trans (Ext.tmp (o := .lst (ws.map V.str)) x2.gh hwa)
    have npl : pl ≠ p0 := fun z => by rw [z, upd_same] at hpl; cases hpl
    have nwl : wa ≠ pl := fun z => by rw [z, upd_same] at hwa; cases hwa
    have nw0 : wa ≠ p0 := fun z => by rw [z, upd_ne (Ne.symm npl), upd_same] at hwa; cases hwa
    refine ⟨wa, rfl, ⟨_, SqL.of upd_same⟩, for_list (K := K) (a := wa) (xs := ws.map V.str) (RowInv H z pl wa ws row)
      ⟨G0, [p0], [[]], none, none, none, rfl, x3, (by rw [upd_ne (Ne.symm nwl), upd_same]; rfl), upd_same, (by simp [nwl, nw0, npl]), ?_, .cons (tv := []) (by rw [upd_ne (Ne.symm nw0), upd_ne (Ne.symm npl), upd_same]) .nil .nil, (by rw [List.drop_zero]; exact hrun), (by simp), (by simp)⟩
      (fun i σ H2 _ ⟨_, _, _, _, _, _, _, _, _, hw, _, _, _, _, _, _⟩ => SqL.of hw) ?_ ?_⟩
    · intro p hp
      refine ⟨rfl, ?_⟩
      simp only [List.mem_cons, List.not_mem_nil, or_false] at hp
      rcases hp with rfl | rfl | rfl
      · exact x2.h.none hwa
      · exact x1.h.none hpl
      · exact hp0
    · rintro i y σ H2 hi ⟨G2, ps, lv, v2, v3, v4, rfl, x, hlv, hw, hnd, nG, lvs, run, b1, b2⟩
      have hil : i < ws.length := by
        have := (List.getElem?_eq_some_iff.mp hi).1
        rwa [List.length_map] at this
      obtain rfl : V.str ws[i] = y := by
        rw [List.getElem?_map, List.getElem?_eq_getElem hil] at hi
        exact Option.some.inj hi
      rw [List.drop_eq_getElem_cons hil, lvRun] at run
      generalize ws[i] = wi at run ⊢
      obtain ⟨lv', hstep, run⟩ := Option.bind_eq_some_iff.mp run
      have hplH := (nG pl (by simp)).2
      have hplG := (nG pl (by simp)).1
      have hwaG := (nG wa (by simp)).1
      obtain ⟨hwn, hnd⟩ := List.nodup_cons.mp hnd
      obtain ⟨hpn, hndp⟩ := List.nodup_cons.mp hnd
      have hwpl : wa ≠ pl := fun z => hwn (by rw [z]; exact List.mem_cons_self)
      have hwps : ∀ p ∈ ps, wa ≠ p := fun p hp z => hwn (by rw [z]; exact List.mem_cons_of_mem _ hp)
      have hplps : ∀ p ∈ ps, pl ≠ p := fun p hp z => hpn (by rw [z]; exact hp)
      refine ⟨_, rfl, rfl, decide (wi = ⟨#[40]⟩), (by rw [str_eq p40]), ?_⟩
      refine ite2 (fun h => ?_) (fun h => ?_)
      · -- a bracket opens
        have h := of_decide_eq_true h
        subst h
        have e : [] :: lv = lv' := by rw [lvStep.eq_def, if_pos rfl] at hstep; exact Option.some.inj hstep
        subst e
        refine ⟨_, rfl, .inl ⟨rfl, _, SqL.of hlv⟩, Nat.zero_le _, fun pn hpn => ⟨pl, _, _, rfl, rfl, same_upd hpn _ _ hlv, (by rw [List.length_map, List.length_reverse]; omega), ?_⟩⟩
        have npn : ∀ p o, H2 p = some o → pn ≠ p := fun p o e z => by rw [← z, hpn] at e; cases e
        have npl' := npn pl _ hlv
        have nwa' := npn wa _ hw
        have nps : ∀ p ∈ ps, pn ≠ p := fun p hp => by obtain ⟨o, ho⟩ := lvs.there p hp; exact npn p o ho
        refine ⟨G2, pn :: ps, [] :: lv, _, _, _, rfl, (x.trans (Ext.tmp x.gh hpn)).mut hplG hplH, (by rw [upd_same]; simp), ?_, ?_, ?_, .cons (tv := []) (by rw [upd_ne npl', upd_same]) .nil (lvs.keep (Same.refl _) fun p hp o ho => ?_), run, (by rw [List.length_cons]; omega), ?_⟩
        · rw [upd_ne hwpl, upd_ne (Ne.symm nwa')]; exact hw
        · refine List.nodup_cons.mpr ⟨?_, List.nodup_cons.mpr ⟨?_, List.nodup_cons.mpr ⟨fun z => nps _ z rfl, hndp⟩⟩⟩
          · intro z
            rcases List.mem_cons.mp z with z | z
            · exact hwpl z
            · rcases List.mem_cons.mp z with z | z
              · exact nwa' z.symm
              · exact hwps _ z rfl
          · intro z
            rcases List.mem_cons.mp z with z | z
            · exact npl' z.symm
            · exact hplps _ z rfl
        · intro p hp
          simp only [List.mem_cons] at hp
          rcases hp with rfl | rfl | rfl | hp
          · exact nG _ (by simp)
          · exact nG _ (by simp)
          · exact ⟨x.gh.none hpn, x.h.none hpn⟩
          · exact nG _ (by simp [hp])
        · rw [upd_ne (Ne.symm (hplps p hp)), upd_ne (Ne.symm (nps p hp))]; exact ho
        · intro ts hts
          rcases List.mem_cons.mp hts with rfl | hts
          · exact Nat.zero_le _
          · exact Nat.le_succ_of_le (b2 ts hts)
      have h40 : wi ≠ ⟨#[40]⟩ := fun z => h (decide_eq_true z)
      refine ⟨_, rfl, rfl, decide (wi = ⟨#[41]⟩), (by rw [str_eq p41]), ?_⟩
      refine ite2 (fun h => ?_) (fun h => ?_)
      · -- a bracket closes
        have h := of_decide_eq_true h
        subst h
        obtain ⟨ts, r0, t, fs, rfl, rfl⟩ := step_close hstep
        have hts := b2 ts (by simp)
        have hrs := b2 (r0 ++ [t]) (by simp)
        rw [List.length_append, List.length_singleton] at hrs
        obtain ⟨p, tv, _, rfl, h1, r1, lvs⟩ := lvs.one
        obtain ⟨p2, tv2, ps', rfl, h2, r2, lvs⟩ := lvs.one
        rw [List.map_append] at r2
        obtain ⟨t0, y, rfl, rt0, ry⟩ := reps_snoc r2
        have ht0 := rt0.length
        rw [List.length_map] at ht0
        obtain ⟨hp2n, hndp⟩ := List.nodup_cons.mp hndp
        obtain ⟨hp2n', hndp'⟩ := List.nodup_cons.mp hndp
        have npp2 : p ≠ p2 := fun z => hp2n (by rw [z]; exact List.mem_cons_self)
        have nplp := hplps p (by simp)
        have nplp2 := hplps p2 (by simp)
        obtain ⟨gp, hp⟩ := nG p (by simp)
        obtain ⟨gp2, hp2⟩ := nG p2 (by simp)
        have elv : (p :: p2 :: ps').reverse.map V.ref = (p2 :: ps').reverse.map V.ref ++ [V.ref p] := by simp
        have elv2 : (p2 :: ps').reverse.map V.ref = ps'.reverse.map V.ref ++ [V.ref p2] := by simp
        rw [elv] at hlv
        -- trees = levels.pop()
        refine ⟨_, rfl, .inl ⟨rfl, _, SqL.of hlv⟩, pl, _, _, rfl, rfl, hlv, last_at _ _, ?_⟩
        rw [List.dropLast_concat]
        have xa := x.mut (o := .lst ((p2 :: ps').reverse.map V.ref)) hplG hplH
        have hpla : upd H2 pl (.lst ((p2 :: ps').reverse.map V.ref)) pl = some (.lst (ps'.reverse.map V.ref ++ [V.ref p2])) := by rw [upd_same, elv2]
        have h2a : upd H2 pl (.lst ((p2 :: ps').reverse.map V.ref)) p2 = some (.lst (t0 ++ [y])) := by rw [upd_ne (Ne.symm nplp2)]; exact h2
        -- above = levels[-1].pop()
        refine ⟨_, rfl, _, rfl, pl, _, _, _, rfl, rfl, SqL.of hpla, atI_last _ _, .inl ⟨rfl, _, SqL.of h2a⟩, p2, _, _, rfl, rfl, h2a, last_at _ _, ?_⟩
        rw [List.dropLast_concat]
        have xb := xa.mut (o := .lst t0) gp2 hp2
        have hplb : upd (upd H2 pl (.lst ((p2 :: ps').reverse.map V.ref))) p2 (.lst t0) pl = some (.lst (ps'.reverse.map V.ref ++ [V.ref p2])) := by rw [upd_ne nplp2]; exact hpla
        have h2b : upd (upd H2 pl (.lst ((p2 :: ps').reverse.map V.ref))) p2 (.lst t0) p2 = some (.lst t0) := upd_same
        have h1b : upd (upd H2 pl (.lst ((p2 :: ps').reverse.map V.ref))) p2 (.lst t0) p = some (.lst tv) := by rw [upd_ne npp2, upd_ne (Ne.symm nplp)]; exact h1
        have hwb : upd (upd H2 pl (.lst ((p2 :: ps').reverse.map V.ref))) p2 (.lst t0) wa = some (.lst (ws.map V.str)) := by rw [upd_ne (hwps p2 (by simp)), upd_ne hwpl]; exact hw
        have ksb : ∀ q ∈ ps', ∀ o, H2 q = some o → upd (upd H2 pl (.lst ((p2 :: ps').reverse.map V.ref))) p2 (.lst t0) q = some o := fun q hq o ho => by
          rw [upd_ne (fun z => hp2n' (by rw [← z]; exact hq)), upd_ne (Ne.symm (hplps q (by simp [hq])))]; exact ho
        generalize upd (upd H2 pl (.lst ((p2 :: ps').reverse.map V.ref))) p2 (.lst t0) = Hb at *
        have xc := xb.freeze gp hp h1b
        have sg : Same G2 (upd G2 p (.lst tv)) := same_upd gp
        -- levels[-1].append(knot(mark_of(above), trees))
        refine ⟨_, rfl, _, rfl, pl, _, _, _, rfl, rfl, SqL.of hplb, atI_last _ _, .inl ⟨rfl, _, SqL.of h2b⟩, _, rfl, upd G2 p (.lst tv), y, t, rfl, xc.gh, ry.mono sg, _, rfl, upd G2 p (.lst tv), t.mark, .ref p, ts, rfl, xc.gh, .lst upd_same (r1.mono sg), (by omega), fun G4 H4 r x4 rr => ?_⟩
        have h24 := x4.h _ _ h2b
        refine ⟨p2, t0, r, rfl, rfl, h24, (by omega), ?_⟩
        have gp24 : G4 p2 = none := x4.keep h2b (by rw [upd_ne (Ne.symm npp2)]; exact gp2)
        have keep4 : ∀ q o, Hb q = some o → q ≠ p → G2 q = none → G4 q = none := fun q o ho hq gq => x4.keep ho (by rw [upd_ne hq]; exact gq)
        have nwp := hwps p (by simp)
        refine ⟨G4, p2 :: ps', (r0 ++ [.node t.mark ts]) :: fs, _, _, _, rfl, (xc.trans x4).mut gp24 hp2, ?_, ?_, ?_, ?_, .cons upd_same ?_ (lvs.keep (sg.trans x4.g) fun q hq o ho => ?_), run, ?_, ?_⟩
        · rw [upd_ne nplp2, x4.h _ _ hplb, elv2]
        · rw [upd_ne (hwps p2 (by simp))]; exact x4.h _ _ hwb
        · refine List.nodup_cons.mpr ⟨fun z => ?_, List.nodup_cons.mpr ⟨fun z => hplps _ (List.mem_cons_of_mem _ z) rfl, hndp⟩⟩
          rcases List.mem_cons.mp z with z | z
          · exact hwpl z
          · exact hwps _ (List.mem_cons_of_mem _ z) rfl
        · intro q hq
          simp only [List.mem_cons] at hq
          rcases hq with rfl | rfl | rfl | hq
          · exact ⟨keep4 _ _ hwb nwp hwaG, (nG _ (by simp)).2⟩
          · exact ⟨keep4 _ _ hplb nplp hplG, hplH⟩
          · exact ⟨gp24, hp2⟩
          · obtain ⟨o, ho⟩ := lvs.there q hq
            obtain ⟨n1, n2⟩ := nG q (by simp [hq])
            exact ⟨keep4 _ _ (ksb q hq o ho) (fun z => hp2n (by rw [← z]; exact List.mem_cons_of_mem _ hq)) n1, n2⟩
        · rw [List.map_append]
          exact (rt0.mono (sg.trans x4.g)).append (.cons rr .nil)
        · rw [upd_ne (fun z => hp2n' (by rw [← z]; exact hq))]
          exact x4.h _ _ (ksb q hq o ho)
        · simp only [List.length_cons] at b1 ⊢
          omega
        · intro us hus
          rcases List.mem_cons.mp hus with rfl | hus
          · rw [List.length_append, List.length_singleton]; omega
          · exact Nat.le_succ_of_le (b2 us (by simp [hus]))
      · -- a word
        have h41 : wi ≠ ⟨#[41]⟩ := fun z => h (decide_eq_true z)
        obtain ⟨r, fs, rfl, rfl⟩ := step_word h40 h41 hstep
        have hrs := b2 r (by simp)
        obtain ⟨p, tv, ps', rfl, h1, r1, lvs⟩ := lvs.one
        obtain ⟨hpn', hndp'⟩ := List.nodup_cons.mp hndp
        have nplp := hplps p (by simp)
        have nwp := hwps p (by simp)
        obtain ⟨gp, hp⟩ := nG p (by simp)
        have htv := r1.length
        rw [List.length_map] at htv
        have elv : (p :: ps').reverse.map V.ref = ps'.reverse.map V.ref ++ [V.ref p] := by simp
        rw [elv] at hlv
        refine ⟨_, rfl, _, rfl, pl, _, _, _, rfl, rfl, SqL.of hlv, atI_last _ _, .inl ⟨rfl, _, SqL.of h1⟩, _, rfl, Nat.zero_le _, fun q hq => ?_⟩
        have xa := x.trans (Ext.add (o := .lst []) x.gh hq)
        refine ⟨upd G2 q (.lst []), wi, .ref q, [], rfl, xa.gh, .lst upd_same .nil, Nat.zero_le _, fun G4 H4 rv x4 rr => ?_⟩
        have nq : ∀ c o, H2 c = some o → c ≠ q := fun c o e z => by rw [z, hq] at e; cases e
        have up : ∀ c o, H2 c = some o → H4 c = some o := fun c o e => x4.h _ _ (same_upd hq _ _ e)
        have keep4 : ∀ c o, H2 c = some o → G2 c = none → G4 c = none := fun c o e g => x4.keep (same_upd hq _ _ e) (by rw [upd_ne (nq c o e)]; exact g)
        have sg : Same G2 (upd G2 q (.lst [])) := same_upd (x.gh.none hq)
        refine ⟨p, tv, rv, rfl, rfl, up _ _ h1, (by omega), ?_⟩
        refine ⟨G4, p :: ps', (r ++ [.node wi []]) :: fs, _, _, _, rfl, (xa.trans x4).mut (keep4 _ _ h1 gp) hp, ?_, ?_, ?_, ?_, .cons upd_same ?_ (lvs.keep (sg.trans x4.g) fun c hc o ho => ?_), run, ?_, ?_⟩
        · rw [upd_ne nplp, up _ _ hlv, elv]
        · rw [upd_ne nwp]; exact up _ _ hw
        · refine List.nodup_cons.mpr ⟨fun z => ?_, List.nodup_cons.mpr ⟨fun z => hplps _ z rfl, hndp⟩⟩
          rcases List.mem_cons.mp z with z | z
          · exact hwpl z
          · exact hwps _ z rfl
        · intro c hc
          simp only [List.mem_cons] at hc
          rcases hc with rfl | rfl | rfl | hc
          · exact ⟨keep4 _ _ hw hwaG, (nG _ (by simp)).2⟩
          · exact ⟨keep4 _ _ hlv hplG, hplH⟩
          · exact ⟨keep4 _ _ h1 gp, hp⟩
          · obtain ⟨o, ho⟩ := lvs.there c hc
            obtain ⟨n1, n2⟩ := nG c (by simp [hc])
            exact ⟨keep4 _ _ ho n1, n2⟩
        · rw [List.map_append]
          exact (r1.mono (sg.trans x4.g)).append (.cons rr .nil)
        · rw [upd_ne (fun z => hpn' (by rw [← z]; exact hc))]
          exact up _ _ ho
        · omega
        · intro us hus
          rcases List.mem_cons.mp hus with rfl | hus
          · rw [List.length_append, List.length_singleton]; omega
          · exact Nat.le_succ_of_le (b2 us (by simp [hus]))
    · rintro σ H2 ⟨G2, ps, lv, v2, v3, v4, rfl, x, hlv, hw, hnd, nG, lvs, run, b1, b2⟩
      rw [List.length_map, List.drop_length, lvRun] at run
      obtain rfl := Option.some.inj run
      cases lvs with
      | cons h r t =>
        cases t
        rename_i p tv
        obtain ⟨n1, n2⟩ := nG p (by simp)
        refine ⟨_, rfl, pl, _, _, _, rfl, rfl, SqL.of hlv, atI_nat (j := 0) rfl, ?_⟩
        exact k _ _ _ row (x.freeze n1 n2 h) (.lst upd_same (r.mono (same_upd n1))) hgood hx.symm
end
end K11
namespace K11
open PySem L2 TT TX
/-- what the text says of the three classes -/
structure ExcTxt (K : PySem.W.Frag) (mg : Str → Option Value) (CN CR CT : Addr) : Prop where
  ev : ExcV K CR
  ek : ExcK K CR
  mN : mg "NoStep" = some (.ref CN)
  mR : mg "NoRow" = some (.ref CR)
  mT : mg "TreeError" = some (.ref CT)
  mV : mg "ValueError" = none
  eR : PySem.W.exmOne K (.ref CR) (.ref CR) = some true
  eT : PySem.W.exmOne K (.ref CR) (.ref CT) = some true
  kN : PySem.W.kitOne K (.ref CR) (.ref CN) = some false
  kR : PySem.W.kitOne K (.ref CR) (.ref CR) = some true
  kV : PySem.W.kitOne K (.ref CR) (.type "ValueError") = some true
theorem bt_ValueError : bootBuiltins "ValueError" = some (.type "ValueError") := by decide +kernel
/-- what is a line -/
def isLine (l : List Nat) : Prop := l = [] ∨ chk 40 0 l = true
section
variable {P : Program} {w : World} {K : PySem.W.Frag} {mg : Str → Option Value} {base : Heap}
/-! ### read -/
def spRead (CR : Addr) : Sp := fun vs H Q E => ∃ z : Str, vs = [.str z] ∧ asc z ∧ z.length ≤ 10000 ∧
  (isLine z.cps.toList → ∀ (G' H' : Hp) (r : V) (row : List Tr), Ext G0 H G' H' → Rep G' r (rowD row) → goods row → txts false row = z.cps.toList → Q r H') ∧
  (¬ isLine z.cps.toList → ∀ H' : Hp, Same H H' → E (.ref CR) none H')
theorem scRead : FnScope ["line"] ["line"] (defScope sRead) := ⟨rfl, rfl, rfl, by decide +kernel, rfl, by decide +kernel, by decide +kernel⟩
theorem empty_eq (z : Str) : decide (V.str z = V.str (Str.ofString "")) = decide (z.cps.toList = []) := by
  rw [Bool.eq_iff_iff, decide_eq_true_iff, decide_eq_true_iff]
  constructor
  · intro h
    injection h with h
    rw [h]
    rfl
  · intro h
    congr 1
    exact Str.ext' (Array.toList_inj.mp h)
theorem ok_read {CR : Addr} {f : Addr} {fd : FuncData} (F : Fun K "read" "read" sRead f fd) (hC : ExcV K CR) (mC : mg "NoRow" = some (.ref CR)) (F_nbr : Ok1 P w K mg base 3 "neighbours_fit" ["line"] spNbr)
    (F_brk : Ok1 P w K mg base 3 "brackets_fit" ["line"] spBrk) (F_rowof : OkT P w K mg base 5 "row_of" ["line"] spRowOf) : FnOk P w K mg base (CXr P w) 7 f fd ["line"] (spRead CR) := by
  refine fun_okR F scRead (fun vs H Q E h => ?_) (fun cdv A outer s H vs Q E hr h => ?_)
  · obtain ⟨z, rfl, _⟩ := h
    rfl
  · obtain ⟨z, rfl, ha, hl, kq, ke⟩ := h
    have nd := scRead.nd
    have big := line_big
    refine ⟨_, (pss_ifTok op_eq (pv 0) (nomark _)
      (pss_one (ps_ret (pe_lst pa_nil)))
      pss_nil
      (pss1_cons (PS1.of (ps_if (PW.pt (pw_or (pt_not (pt_val (pe_fn F_nbr (hr.mono (by decide)) rfl (pa_cons (pv 0) pa_nil)))) (pw_or1 (pt_not (pt_val (pe_fn F_brk (hr.mono (by decide)) rfl (pa_cons (pv 0) pa_nil)))))))
        (pss_one (ps_raise raises_cx hC rfl rfl mC (pa_cons (pe_fstr (pfs_cons (pf_text (n := 100) (by decide)) (pfs_cons (pf_repr (pv 0)) pfs_nil)) (by decide)) pa_nil)))
        pss_nil))
      (pss1_one (ps_ret1 (pe_fn1 F_rowof (hr.mono (by decide)) rfl (pa_cons (pv 0) pa_nil)))))), ?_⟩
    refine ⟨_, rfl, rfl, decide (z.cps.toList = []), (by rw [empty_eq]), ?_⟩
    refine ite2 (fun h => ?_) (fun h => ?_)
    · have h := of_decide_eq_true h
      refine ⟨Nat.zero_le _, fun p hp => ?_⟩
      have x0 : Ext G0 H G0 H := Ext.refl (fun _ _ e => nomatch e)
      exact kq (.inl h) _ _ _ [] (x0.trans (Ext.add (o := .lst []) x0.gh hp)) (.lst upd_same .nil) trivial h.symm
    have h0 : ¬ z.cps.toList = [] := fun e => h (decide_eq_true e)
    have ce := chk_eq z.cps.toList 40 0
    have raise : chk 40 0 z.cps.toList = false → tRaise CR E (tCons (tText fun σ H => True ∧ (∃ z, σ[0]? = some (some (.str z)) ∧ z.length ≤ 100000 ∧ asc z) ∧ True) tNil) { nx := fun _ _ => True, rt := Q } (start ["line"] [V.str z]) H := by
      intro hb
      refine ⟨⟨trivial, ⟨z, rfl, by omega, ha⟩, trivial⟩, fun y => ⟨(by show 1 ≤ sizeLine; decide), ke ?_ H (Same.refl H)⟩⟩
      rintro (h | h)
      · exact h0 h
      · rw [hb] at h; cases h
    refine ⟨_, rfl, z, rfl, ha, hl, _, rfl, ?_⟩
    cases hn : nbr 40 (z.cps.toList ++ [41]) with
    | false =>
      refine iteT ?_
      exact raise (by rw [ce, hn]; rfl)
    | true =>
      refine iteF ⟨_, rfl, z, rfl, ha, _, rfl, ?_⟩
      cases hb : brk 0 z.cps.toList with
      | false =>
        refine iteT ?_
        exact raise (by rw [ce, hn, hb]; rfl)
      | true =>
        refine iteF ?_
        have hc : chk 40 0 z.cps.toList = true := by rw [ce, hn, hb]; rfl
        exact ⟨_, rfl, z, rfl, hl, hc, kq (.inr hc)⟩
/-! ### _law_base_tells -/
def spTells : Sp := fun vs H Q _ => ∃ z : Str, vs = [.str z] ∧ asc z ∧ z.length ≤ 10000 ∧ ¬ isLine z.cps.toList ∧ ∀ H' : Hp, Same H H' → Q (.bl true) H'
theorem scTells : FnScope ["_law_line", "e", "_law_many"] ["_law_line"] (defScope sTells) := ⟨rfl, rfl, rfl, by decide +kernel, rfl, by decide +kernel, by decide +kernel⟩
theorem ok_tells {CN CR CT : Addr} {f : Addr} {fd : FuncData} (F : Fun K "_law_base_tells" "_law_base_tells" sTells f fd) (T : Txt mg) (X : ExcTxt K mg CN CR CT) (F_read : OkR P w K mg base 7 "read" ["line"] (spRead CR)) :
    FnOk P w K mg base CX0 9 f fd ["_law_line"] spTells := by
  refine F.ok scTells (fun vs H Q E h => ?_) (fun cdv A outer s H vs Q E hr h => ?_)
  · obtain ⟨z, rfl, _⟩ := h
    rfl
  · obtain ⟨z, rfl, ha, hl, hb, k⟩ := h
    have nd := scTells.nd
    refine ⟨_, (pss_cons (ps_tryAs (i := 1) ⟨rfl, rfl, rfl⟩ nd rfl rfl (pb_drop F_read (hr.mono (by decide)) rfl (pa_cons (pv 0) pa_nil)) rfl X.mT
        (fun x oe cls hcls => pss_cons (ps_set (i := 2) nd rfl (Or.inl rfl) (pe_op op_add (pe_callTy call_int1 rfl T.int bt_int (pa_cons (pe_callB (call_isiX hcls) rfl T.isinstance bt_isinstance (pa_cons (pv 1) (pa_cons (pe_glob (v := .ref CN) rfl X.mN rfl) pa_nil))) pa_nil))
            (pe_callTy call_int1 rfl T.int bt_int (pa_cons (pe_callB (call_isiX hcls) rfl T.isinstance bt_isinstance (pa_cons (pv 1) (pa_cons (pe_glob (v := .ref CR) rfl X.mR rfl) pa_nil))) pa_nil))))
          (pss_one (ps_ret (pe_and (pe_callB (call_isiX hcls) rfl T.isinstance bt_isinstance (pa_cons (pv 1) (pa_cons (pe_ty rfl X.mV bt_ValueError) pa_nil))) (pe_one (pe_cmpR op_eq (pv 2) pe_int (nomark _))))))))
      (pss_one (ps_ret pe_bl))), ?_⟩
    refine ⟨_, rfl, z, rfl, ha, hl, fun h => absurd h hb, fun _ H' s' => ⟨X.eT, fun x nx => ?_⟩⟩
    refine ⟨_, rfl, CR, _, _, false, rfl, X.ek, rfl, (fun _ r => r), X.kN, .inr ⟨false, rfl, ?_⟩⟩
    refine ⟨_, rfl, CR, _, _, true, rfl, X.ek, rfl, (fun _ r => r), X.kR, .inr ⟨true, rfl, _, _, rfl, rfl, ?_⟩⟩
    refine ⟨_, rfl, CR, _, _, true, rfl, X.ek, rfl, (fun _ r => r), X.kV, true, rfl, iteT ?_⟩
    exact ⟨_, rfl, rfl, k H' s'⟩
end
end K11
namespace K11
open PySem L2 TT TX
theorem kit_tuple_str (K : PySem.W.Frag) : PySem.W.kitOne K (.type "tuple") (.type "str") = some false := by rfl
/-- between two turns of _law_line_of -/
inductive LineInv (G H : Hp) (v : V) (l : List Nat) (m : Nat) (σ : L2.St) (H2 : Hp) : Prop
  | mk (x : List Nat) (pt : Addr) (tv : List V) (us : List (Option Tr)) (z : Option V) (e : σ = [some v, some (.str ⟨x.toArray⟩), some (.ref pt), z]) (ext : Ext G H G H2) (nG : G pt = none) (nH : H pt = none) (hpt : H2 pt = some (.lst tv))
      (rus : Reps G tv (us.reverse.map itemD)) (hwt : wt us = m) (hm : m ≤ 3000) (hg : ∀ t, some t ∈ us → good t) (hx : x ++ sOut (nb x) us = l) : LineInv G H v l m σ H2
section
variable {P : Program} {w : World} {K : PySem.W.Frag} {mg : Str → Option Value} {base : Heap}
/-! ### _law_line_of -/
def spLineOf : Sp := fun vs H Q _ => ∃ (G : Hp) (v : V) (ts : List Tr), vs = [v] ∧ Same G H ∧ Rep G v (rowD ts) ∧ goods ts ∧ knotsOf ts ≤ 1000 ∧ (txts false ts).length ≤ 20000 ∧
  ∀ H' : Hp, Same H H' → Q (.str ⟨(txts false ts).toArray⟩) H'
theorem scLineOf : FnScope ["_law_row", "_law_line", "_law_todo", "_law_tree"] ["_law_row"] (defScope sLineOf) := ⟨rfl, rfl, rfl, by decide +kernel, rfl, by decide +kernel, by decide +kernel⟩
theorem goods_mem : ∀ {ts : List Tr}, goods ts → ∀ t ∈ ts, good t
  | _ :: _, h, t, ht => by
    rw [goods] at h
    rcases List.mem_cons.mp ht with rfl | ht
    · exact h.1
    · exact goods_mem h.2 t ht
theorem ok_lineof {f : Addr} {fd : FuncData} (F : Fun K "_law_line_of" "_law_line_of" sLineOf f fd) (T : Txt mg) : FnOk P w K mg base CX0 5 f fd ["_law_row"] spLineOf := by
  refine F.ok scLineOf (fun vs H Q E h => ?_) (fun cdv A outer s H vs Q E hr h => ?_)
  · obtain ⟨G, v, ts, rfl, _⟩ := h
    rfl
  · obtain ⟨G, v, ts, rfl, sm, rv, hgd, hkt, hlen, k⟩ := h
    have nd := scLineOf.nd
    have hu := hr.units0
    have big := line_big
    refine ⟨_, (pss_cons (ps_set (i := 1) nd rfl (Or.inl rfl) pe_str)
      (pss_cons (ps_set (i := 2) nd rfl (Or.inl rfl) (pe_listRev rfl T.reversed rfl T.list hr.hd (pa_cons (pv 0) pa_nil)))
      (pss_cons (ps_while PassesOwn.never (pt_cmpR (op_neE hu) (pv 2) (pe_lst pa_nil) (nomark _))
        (pss_cons (ps_set (i := 3) nd rfl (Or.inl rfl) (pe_bm0 PySem.F.plainAttrs_list PySem.F.slot_list_pop PySem.F.type_list_pop mt_pop (pv 2)))
        (pss_one (ps_if (pt_val (pe_callB call_isi rfl T.isinstance bt_isinstance (pa_cons (pv 3) (pa_cons (pe_ty rfl T.str bt_str) pa_nil))))
          (pss_one (ps_set (i := 1) nd rfl (Or.inl rfl) (pe_op op_add_str (pv 1) (pv 3))))
          (pss_cons (ps_ifM (PW.pt (pw_and (pt_cmpR op_ne (pv 1) pe_str (nomark _)) (pw_and1 (pt_cmpR op_ne (pe_ix ix_str (pv 1) (pe_un un_neg pe_int) (fun _ _ => rfl)) pe_str (nomark _)))))
            (pss_one (ps_set (i := 1) nd rfl (Or.inl rfl) (pe_op op_add_str (pv 1) pe_str)))
            pss_nil)
          (pss_cons (ps_set (i := 1) nd rfl (Or.inl rfl) (pe_op op_add_str (pv 1) (pe_ix ix_tup (pv 3) pe_int (fun _ _ => rfl))))
          (pss_one (ps_if (pt_cmpR op_gt (pe_callB call_len_seq rfl T.len bt_len (pa_cons (pv 3) pa_nil)) pe_int (nomark _))
            (pss_cons (ps_set (i := 1) nd rfl (Or.inl rfl) (pe_op op_add_str (pv 1) pe_str))
            (pss_one (ps_set (i := 2) nd rfl (Or.inl rfl) (pe_op op_cat (pe_op op_cat (pv 2) (pe_lst (pa_cons pe_str pa_nil))) (pe_listRvd rfl T.reversed rfl T.list hr.hd (pa_cons (pe_slice sl_tup (pv 3) (po_some pe_int) po_none) pa_nil))))))
            pss_nil))))))))
      (pss_one (ps_ret (pv 1)))))), ?_⟩
    obtain ⟨ra, rvs, rfl, hra, rts⟩ := rv.row
    refine ⟨_, rfl, ra, rvs, rfl, SqL.of (sm _ _ hra), fun p0 hp0 => ?_⟩
    refine ⟨LineInv G H (.ref ra) (txts false ts), ⟨_, [], p0, rvs.reverse, ts.map some, none, rfl, Ext.tmp sm hp0, sm.none hp0, hp0, upd_same, ?_, rfl, ?_, ?_, ?_⟩, ?_⟩
    · have := reps_rev rts
      rw [← List.map_reverse] at this
      rw [← List.map_reverse, List.map_map]
      exact this
    · rw [wt_map]; omega
    · intro t ht
      obtain ⟨u, hu, e⟩ := List.mem_map.mp ht
      cases e
      exact goods_mem hgd t hu
    · have := sOut_map false ts []
      rw [List.append_nil] at this
      show [] ++ sOut false _ = _
      rw [this]
      simp [sOut]
    rintro m σ H2 ⟨x, pt, tv, us, z, rfl, ex, nG, nH, hpt, rus, rfl, hm, hg, hx⟩
    refine ⟨_, rfl, Nat.zero_le _, fun pe hpe => ⟨pt, pe, tv, rfl, rfl, SqL.of (same_upd hpe _ _ hpt), SqL.of upd_same, _, rfl, ?_⟩⟩
    have x1 := ex.trans (Ext.tmp (o := .lst []) ex.gh hpe)
    have hpt1 := same_upd (o := .lst []) hpe _ _ hpt
    have hlx : x.length ≤ 20000 := by
      have := congrArg List.length hx
      rw [List.length_append] at this
      omega
    cases us with
    | nil =>
      have e0 : tv = [] := by
        have := rus.length
        exact List.length_eq_zero_iff.mp this
      subst e0
      refine iteF ⟨_, rfl, ?_⟩
      have e1 : x = txts false ts := by simpa [sOut] using hx
      rw [e1]
      exact k _ x1.h
    | cons u us =>
      rw [List.reverse_cons, List.map_append] at rus
      obtain ⟨t0, y, rfl, r0, ry⟩ := reps_snoc rus
      have hne : (t0 ++ [y]).isEmpty = false := by cases t0 <;> rfl
      have ht0 := r0.length
      rw [List.length_map, List.length_reverse] at ht0
      have hlw := len_wt us
      rw [hne]
      refine iteT ⟨fun σ' H' => ∃ m', m' < wt (u :: us) ∧ LineInv G H (.ref ra) (txts false ts) m' σ' H', fun _ _ z => z, ?_⟩
      refine ⟨_, rfl, .inl ⟨rfl, _, SqL.of hpt1⟩, pt, _, _, rfl, rfl, hpt1, last_at t0 _, ?_⟩
      rw [List.dropLast_concat]
      have x2 := x1.mut (o := .lst t0) nG nH
      have hpt2 : upd (upd H2 pe (.lst [])) pt (.lst t0) pt = some (.lst t0) := upd_same
      generalize upd (upd H2 pe (.lst [])) pt (.lst t0) = H3 at *
      cases u with
      | none =>
        cases ry
        refine ⟨_, rfl, _, _, _, _, rfl, .str _, kit_str_str K, _, rfl, iteT ?_⟩
        refine ⟨_, rfl, _, rfl, _, _, rfl, rfl, ?_, ?_⟩
        · show x.toArray.size + 1 ≤ sizeLine
          rw [List.size_toArray]; omega
        rw [wt] at hm
        refine ⟨wt us, by rw [wt]; omega, x ++ [41], pt, t0, us, some (.str ⟨#[41]⟩), ?_, x2, nG, nH, hpt2, r0, rfl, by omega, fun t ht => hg t (List.mem_cons_of_mem _ ht), sOut_close hx⟩
        rw [mk_app]; rfl
      | some t =>
        have hgt := hg t List.mem_cons_self
        obtain ⟨tra, kv, rfl, htra, rkv⟩ := Rep.tree ry
        have ht2 := x2.gh _ _ htra
        have hkvl := rkv.length
        rw [List.length_map] at hkvl
        have hke := knots_eq t
        have hlk := length_le_knots t.kids
        rw [wt] at hm
        have hmk : Wrd t.mark.cps.toList := by cases t; rw [good] at hgt; exact hgt.1
        have hgk : goods t.kids := by cases t; rw [good] at hgt; exact hgt.2
        have et : t = .node t.mark t.kids := by cases t; rfl
        rw [et] at hx
        obtain ⟨c1, c2⟩ := sOut_tree hx hmk
        refine ⟨_, rfl, _, _, _, _, rfl, .tup ht2, kit_tuple_str K, _, rfl, iteF ?_⟩
        -- a blank, or none
        refine ⟨fun σ' H' => σ' = [some (.ref ra), some (.str ⟨(x ++ (if nb x = true then [32] else [])).toArray⟩), some (.ref pt), some (.ref tra)] ∧ H' = H3, ?_, ?_⟩
        · refine ⟨_, rfl, rfl, !decide (x = []), (by rw [empty_eq]), ?_⟩
          cases hxe : x.isEmpty with
          | true =>
            have hx0 := List.isEmpty_iff.mp hxe
            subst hx0
            refine iteF (iteF ⟨?_, rfl⟩)
            rfl
          | false =>
            obtain ⟨x0, c, rfl⟩ := last_of x hxe
            rw [decide_eq_false (by simp), nb_snoc]
            refine iteT ⟨_, rfl, _, rfl, _, _, c, rfl, rfl, ?_, (by show atI (x0 ++ [c]) (-1) = some c; exact atI_last x0 c), rfl, !decide (c = 40), (by rw [one_eq p40]), ?_⟩
            · show (x0 ++ [c]).toArray.size ≤ sizeLine
              rw [List.size_toArray]; omega
            by_cases hc : c = 40
            · rw [decide_eq_true hc]
              refine iteF ⟨?_, rfl⟩
              subst hc
              simp
            · rw [decide_eq_false hc]
              refine iteT ⟨_, rfl, _, _, rfl, rfl, ?_, ?_⟩
              · show (x0 ++ [c]).toArray.size + 1 ≤ sizeLine
                rw [List.size_toArray]; omega
              · refine ⟨?_, rfl⟩
                rw [if_pos (by rw [bne_iff_ne]; exact hc), mk_app]
                rfl
        rintro σ' H' ⟨rfl, rfl⟩
        have hbl : (if nb x = true then [32] else ([] : List Nat)).length ≤ 1 := by split <;> simp
        have hml : (x ++ (if nb x = true then [32] else []) ++ t.mark.cps.toList).length ≤ 20000 := by
          have := congrArg List.length hx
          rw [sOut, txt] at this
          simp only [List.length_append] at this ⊢
          omega
        refine ⟨_, rfl, _, rfl, tra, _, _, _, rfl, rfl, SqT.of ht2, atI_nat (j := 0) rfl, _, _, rfl, rfl, ?_, ?_⟩
        · show (x ++ (if nb x = true then [32] else [])).toArray.size + t.mark.cps.size ≤ sizeLine
          have : t.mark.cps.size = t.mark.cps.toList.length := by simp
          rw [List.size_toArray, this]
          simp only [List.length_append] at hml ⊢
          omega
        rw [mk_app]
        refine ⟨_, rfl, tra, _, rfl, .inr (SqT.of ht2), _, _, rfl, rfl, _, rfl, ?_⟩
        refine ite2 (fun h => ?_) (fun h => ?_)
        · have h1 := of_decide_eq_true h
          have hkn : t.kids ≠ [] := by
            intro e
            rw [e] at hkvl
            rw [List.length_cons, hkvl] at h1
            simp at h1
          refine ⟨_, rfl, _, _, rfl, rfl, ?_, ?_⟩
          · show (x ++ (if nb x = true then [32] else []) ++ t.mark.cps.toList).toArray.size + 1 ≤ sizeLine
            rw [List.size_toArray]; omega
          rw [mk_app]
          refine ⟨_, rfl, (by show 1 ≤ sizeLine; decide), fun q1 h1 => ⟨pt, q1, _, _, rfl, rfl, same_upd h1 _ _ hpt2, upd_same, (by show t0.length + 1 ≤ sizeLine; omega), fun q2 h2 => ?_⟩⟩
          have x3 := x2.trans (Ext.tmp (o := .lst [V.str (Str.ofString ")")]) x2.gh h1)
          have x4 := x3.trans (Ext.tmp (o := .lst (t0 ++ [V.str (Str.ofString ")")])) x3.gh h2)
          have ht4 := x4.gh _ _ htra
          refine ⟨_, rfl, _, rfl, tra, _, rfl, SqT.of ht4, kids_not _ _, fun q3 h3 => ⟨q3, kv, rfl, SqT.of (by rw [upd_same, kids_cut]), ?_, fun q4 h4 => ?_⟩⟩
          · intro e
            rw [e] at hkvl
            exact hkn (List.length_eq_zero_iff.mp hkvl.symm)
          have x5 := x4.trans (Ext.tmp (o := .tup (cutV (V.str t.mark :: kv) (some 1) none)) x4.gh h3)
          have x6 := x5.trans (Ext.tmp (o := .lst kv.reverse) x5.gh h4)
          refine ⟨q2, q4, _, _, rfl, rfl, same_upd h4 _ _ (same_upd h3 _ _ upd_same), upd_same, ?_, fun q5 h5 => ?_⟩
          · rw [List.length_append, List.length_reverse, List.length_singleton]; omega
          have x7 := x6.trans (Ext.tmp (o := .lst (t0 ++ [V.str (Str.ofString ")")] ++ kv.reverse)) x6.gh h5)
          have hw2 : wt (t.kids.map some ++ none :: us) = 2 * knotsOf t.kids + (1 + wt us) := by rw [wt_append, wt_map, wt]
          refine ⟨wt (t.kids.map some ++ none :: us), by rw [hw2, wt]; omega, _, q5, _, t.kids.map some ++ none :: us, _, rfl, x7, x6.gh.none h5, x6.h.none h5, upd_same, ?_, rfl, by rw [hw2]; omega, ?_, c2 hkn⟩
          · rw [List.reverse_append, List.reverse_cons, List.map_append, List.map_append, p41]
            refine Reps.append (Reps.append r0 (.cons (.str _) .nil)) ?_
            have := reps_rev rkv
            rw [← List.map_reverse] at this
            rw [← List.map_reverse, List.map_map]
            exact this
          · intro u hu
            rcases List.mem_append.mp hu with hu | hu
            · obtain ⟨v, hv, e⟩ := List.mem_map.mp hu
              cases e
              exact goods_mem hgk u hv
            · rcases List.mem_cons.mp hu with hu | hu
              · cases hu
              · exact hg u (List.mem_cons_of_mem _ hu)
        · have h1 : ¬ ((V.str t.mark :: kv).length : Int) > 1 := fun z => h (decide_eq_true z)
          have hkn : t.kids = [] := by
            refine List.length_eq_zero_iff.mp ?_
            rw [List.length_cons] at h1
            omega
          exact ⟨wt us, by rw [wt]; omega, _, pt, t0, us, _, rfl, x2, nG, nH, hpt2, r0, rfl, by omega, fun u hu => hg u (List.mem_cons_of_mem _ hu), c1 hkn⟩
end
end K11
namespace K11
open PySem L2 TT TX
theorem mk_eq {s : String} {l : List Nat} (e : Str.ofString s = ⟨l.toArray⟩) (m : List Nat) : decide (V.str ⟨m.toArray⟩ = V.str (Str.ofString s)) = decide (m = l) := by
  rw [e, Bool.eq_iff_iff, decide_eq_true_iff, decide_eq_true_iff]
  constructor
  · intro h
    injection h with h
    injection h with h
    simpa using h
  · rintro rfl
    rfl
theorem in_pars (c : Nat) : (!(Builtin.Str.occurrences (Str.ofString "() ") ⟨#[c]⟩ 0 (Str.ofString "() ").length 1).isEmpty) = decide (c = 40 ∨ c = 41 ∨ c = 32) := by
  rw [StrLaws.found_one]
  have e : (Str.ofString "() ").cps.toList = [40, 41, 32] := by decide +kernel
  rw [e, Bool.eq_iff_iff, decide_eq_true_iff, decide_eq_true_iff]
  simp
theorem last_W (m : List Nat) : decide (V.str (cutS ⟨m.toArray⟩ (some (-1)) none) = V.str (Str.ofString "W")) = decide (m.getLast? = some 87) := by
  have e : cutS ⟨m.toArray⟩ (some (-1)) none = ⟨(m.drop (m.length - 1)).toArray⟩ := by
    refine Str.ext' ?_
    show ((m.drop (HT.sIx (⟨m.toArray⟩ : Str).length 0 (some (-1)))).take (HT.sIx (⟨m.toArray⟩ : Str).length (⟨m.toArray⟩ : Str).length none - HT.sIx (⟨m.toArray⟩ : Str).length 0 (some (-1)))).toArray = (m.drop (m.length - 1)).toArray
    rw [len_mk]
    have e1 : HT.sIx m.length 0 (some (-1)) = m.length - 1 := by
      show (if (-1 : Int) < 0 then ((-1 : Int) + (m.length : Int)).toNat else min (-1 : Int).toNat m.length) = m.length - 1
      rw [if_pos (by decide)]
      omega
    rw [e1, HT.sIx_none, List.take_of_length_le (by rw [List.length_drop]; omega)]
  rw [e, mk_eq (l := [87]) (by decide +kernel)]
  rw [Bool.eq_iff_iff, decide_eq_true_iff, decide_eq_true_iff]
  cases hm : m.isEmpty with
  | true => rw [List.isEmpty_iff.mp hm]; simp
  | false =>
    obtain ⟨a, c, rfl⟩ := last_of m hm
    simp
theorem rp {x y z : Str} {f : List Nat → List Nat} {ly lz : List Nat} (ey : y = ⟨ly.toArray⟩) (ez : z = ⟨lz.toArray⟩) (F : RepF ly lz f) (hw : 1 ≤ ly.length) : Txt.replace x y z = ⟨(f x.cps.toList).toArray⟩ := by
  subst ey ez
  refine Str.ext' (Array.toList_inj.mp ?_)
  exact replace_eq F (by rw [len_mk]; exact hw)
theorem rp_WF (m : List Nat) : Txt.replace ⟨m.toArray⟩ (Str.ofString "W(") (Str.ofString "F(") = ⟨(rWF m).toArray⟩ := rp (ly := [87, 40]) (lz := [70, 40]) (by decide +kernel) (by decide +kernel) repWF (by decide)
theorem rp_WT (m : List Nat) : Txt.replace ⟨m.toArray⟩ (Str.ofString "W") (Str.ofString "T") = ⟨(rWT m).toArray⟩ := rp (ly := [87]) (lz := [84]) (by decide +kernel) (by decide +kernel) repWT (by decide)
theorem rp_TT (m : List Nat) : Txt.replace ⟨m.toArray⟩ (Str.ofString "T T") (Str.ofString "T") = ⟨(rTT m).toArray⟩ := rp (ly := [84, 32, 84]) (lz := [84]) (by decide +kernel) (by decide +kernel) repTT (by decide)
theorem rp_FT (m : List Nat) : Txt.replace ⟨m.toArray⟩ (Str.ofString "F(T)") (Str.ofString "T") = ⟨(rFT m).toArray⟩ := rp (ly := [70, 40, 84, 41]) (lz := [84]) (by decide +kernel) (by decide +kernel) repFT (by decide)
theorem rnds_succ : ∀ (n : Nat) (s : List Nat), rnds (n + 1) s = rnd (rnds n s)
  | 0, _ => rfl
  | n + 1, s => by rw [rnds, rnds_succ n, ← rnds]
theorem rnds_len : ∀ (n : Nat) (s : List Nat), (rnds n s).length ≤ s.length
  | 0, _ => Nat.le_refl _
  | n + 1, s => by
    have h1 := rnds_len n (rnd s)
    have h2 := rnd_len s
    rw [rnds]; omega
theorem wst_len (l : List Nat) : (l.foldl wst []).length ≤ l.length := by
  rw [wst_run]
  exact wcomp_len _ l
theorem rWF_len (s : List Nat) : (rWF s).length = s.length := by
  fun_induction rWF s with
  | case1 r ih => simp [ih]
  | case2 c r _ ih => simp [ih]
  | case3 => rfl
section
variable {P : Program} {w : World} {K : PySem.W.Frag} {mg : Str → Option Value} {base : Heap}
/-! ### _law_well -/
def spWell : Sp := fun vs H Q _ => ∃ z : Str, vs = [.str z] ∧ asc z ∧ z.length ≤ 10000 ∧ ∀ b : Bool, (b = true ↔ isLine z.cps.toList) → Q (.bl b) H
theorem scWell : FnScope ["_law_line", "_law_marks", "_law_sign", "_law_turn"] ["_law_line"] (defScope sWell) := ⟨rfl, rfl, rfl, by decide +kernel, rfl, by decide +kernel, by decide +kernel⟩
theorem ok_well {f : Addr} {fd : FuncData} (F : Fun K "_law_well" "_law_well" sWell f fd) (T : Txt mg) : FnOk P w K mg base CX0 3 f fd ["_law_line"] spWell := by
  refine F.ok scWell (fun vs H Q E h => ?_) (fun cdv A outer s H vs Q E hr h => ?_)
  · obtain ⟨z, rfl, _⟩ := h
    rfl
  · obtain ⟨z, rfl, ha, hl, k⟩ := h
    have nd := scWell.nd
    have big := line_big
    have hzl : z.cps.toList.length = z.length := by simp [Str.length]
    refine ⟨_, (pss_setTok (i := 1) nd rfl (Or.inl rfl)
      (pss1_cons (PS1.of (ps_for PassesOwn.never rfl (pi_str (pv 0)) (pg_name (i := 2) nd rfl (Or.inl rfl))
        (pss_one (ps_if (pt_cmpR op_in_str (pv 2) pe_str (by with_unfolding_all rfl))
          (pss_one (ps_if (pt_cmpR op_ne (pe_slice sl_str (pv 1) (po_some (pe_un un_neg pe_int)) po_none) pe_str (nomark _))
            (pss_one (ps_set (i := 1) nd rfl (Or.inl rfl) (pe_op op_add_str (pv 1) pe_str)))
            pss_nil))
          (pss_one (ps_if (pt_cmpR op_in_str (pv 2) pe_str (by with_unfolding_all rfl))
            (pss_one (ps_set (i := 1) nd rfl (Or.inl rfl) (pe_op op_add_str (pv 1) (pv 2))))
            (pss_one (ps_set (i := 1) nd rfl (Or.inl rfl) (pe_op op_add_str (pv 1) pe_str)))))))))
      (pss1_cons (ps_set1 (i := 1) nd rfl (Or.inl rfl) (pe_replace (pe_replace (PE1.of (pv 1)))))
      (pss1_cons (ps_for1 PassesOwn.never rfl (PI1.of (pi_range1 rfl T.range (pa_cons (pe_callB call_len_str rfl T.len bt_len (pa_cons (pv 0) pa_nil)) pa_nil))) (pg_name (i := 3) nd rfl (Or.inl rfl))
        (pss1_one (ps_set1 (i := 1) nd rfl (Or.inl rfl) (pe_replace (pe_replace (PE1.of (pv 1)))))))
      (PSs1.of (pss_one (ps_ret (pe_or (pe_cmpR op_eq (pv 1) pe_str (nomark _)) (pe_one (pe_cmpR op_eq (pv 0) pe_str (nomark _))))))))))), ?_⟩
    refine ⟨_, rfl, _, rfl, ha, for_str (fun a r σ H2 => ∃ (v2 : Option V), σ = [some (.str z), some (.str ⟨(a.foldl wst []).toArray⟩), v2, none] ∧ H2 = H ∧ a.length ≤ 10000)
      ⟨none, rfl, rfl, Nat.zero_le _⟩ ?_ ?_⟩
    · rintro a c r σ H2 hx ⟨v2, rfl, rfl, hal⟩
      have hsl : a.length + 1 ≤ 10000 := by
        have := congrArg List.length hx
        rw [List.length_append, List.length_cons] at this
        omega
      have hml := wst_len a
      obtain ⟨m, hmd⟩ : ∃ m, a.foldl wst [] = m := ⟨_, rfl⟩
      have fin : ∀ y : Str, y = ⟨(wst m c).toArray⟩ → ∃ (v2 : Option V), [some (V.str z), some (.str y), some (.str ⟨#[c]⟩), none] = [some (V.str z), some (.str ⟨((a ++ [c]).foldl wst []).toArray⟩), v2, none] ∧ H2 = H2 ∧ (a ++ [c]).length ≤ 10000 :=
        fun y e => ⟨some (.str ⟨#[c]⟩), by rw [e, List.foldl_append, hmd]; rfl, rfl, by rw [List.length_append, List.length_singleton]; exact hsl⟩
      rw [hmd] at hml ⊢
      have hmz : m.toArray.size ≤ 10000 := by rw [List.size_toArray]; omega
      refine ⟨_, rfl, _, _, rfl, rfl, low c, (by rw [← in_alpha]; rfl), ?_⟩
      refine ite2 (fun hlow => ?_) (fun hlow => ?_)
      · refine ⟨_, rfl, _, rfl, _, rfl, _, rfl, (by show m.toArray.size ≤ sizeLine; omega), rfl, !decide (m.getLast? = some 87), (by rw [last_W]), ?_⟩
        by_cases hm : m.getLast? = some 87
        · rw [decide_eq_true hm]
          refine iteF (fin _ ?_)
          rw [wst, if_pos hlow, if_pos hm]
        · rw [decide_eq_false hm]
          refine iteT ⟨_, rfl, _, _, rfl, rfl, (by show m.toArray.size + 1 ≤ sizeLine; omega), fin _ ?_⟩
          rw [wst, if_pos hlow, if_neg hm, mk_app]
          rfl
      · refine ⟨_, rfl, _, _, rfl, rfl, decide (c = 40 ∨ c = 41 ∨ c = 32), (by rw [← in_pars]), ?_⟩
        refine ite2 (fun hp => ?_) (fun hp => ?_)
        · have hp := of_decide_eq_true hp
          refine ⟨_, rfl, _, rfl, _, _, rfl, rfl, (by show m.toArray.size + 1 ≤ sizeLine; omega), fin _ ?_⟩
          rw [wst, if_neg hlow, if_pos hp, mk_app]
        · have hp : ¬ (c = 40 ∨ c = 41 ∨ c = 32) := fun z => hp (decide_eq_true z)
          refine ⟨_, rfl, _, _, rfl, rfl, (by show m.toArray.size + 1 ≤ sizeLine; omega), fin _ ?_⟩
          rw [wst, if_neg hlow, if_neg hp, mk_app]
          rfl
    rintro σ H2 ⟨v2, rfl, rfl, hal⟩
    have hml := wst_len z.cps.toList
    have key := well_iff z.cps.toList
    generalize z.cps.toList.foldl wst [] = m at hml key ⊢
    have lenS : ∀ (l : List Nat) (n : Nat), l.length ≤ n → (⟨l.toArray⟩ : Str).length ≤ n := fun l n h => by rw [len_mk]; exact h
    refine ⟨_, rfl, _, rfl, lenS _ _ (by omega), _, rfl, (by rw [rp_WF]; exact lenS _ _ (by rw [rWF_len]; omega)), ?_⟩
    rw [rp_WF, rp_WT]
    have hsl : (rWT (rWF m)).length ≤ 10000 := by rw [rWT, List.length_map, rWF_len]; omega
    generalize rWT (rWF m) = s0 at hsl key ⊢
    refine ⟨_, rfl, z, rfl, (by omega), _, rfl, (by omega), (by omega), for_range (fun i σ H' => ∃ (v3 : Option V), σ = [some (.str z), some (.str ⟨(rnds i s0).toArray⟩), v2, v3] ∧ H' = H2) ⟨none, rfl, rfl⟩ ?_ ?_⟩
    · rintro i σ H' hi ⟨v3, rfl, rfl⟩
      have hl1 := rnds_len i s0
      have hl2 := (lenT (rnds i s0)).1
      refine ⟨_, rfl, _, rfl, lenS _ _ (by omega), _, rfl, (by rw [rp_TT]; exact lenS _ _ (by omega)), ?_⟩
      rw [rp_TT, rp_FT]
      refine ⟨some (.int (0 + (i : Int))), ?_, rfl⟩
      rw [rnds_succ]
      rfl
    · rintro σ H' ⟨v3, rfl, rfl⟩
      have el : ((z.length : Int)).toNat = z.cps.toList.length := by omega
      rw [el]
      refine ⟨_, rfl, rfl, decide (rnds z.cps.toList.length s0 = [84]), (by rw [mk_eq (l := [84]) (by decide +kernel)]), ?_⟩
      refine ite2 (fun h => ?_) (fun h => ?_)
      · have h := of_decide_eq_true h
        exact k true ⟨fun _ => .inr (key.mp h), fun _ => rfl⟩
      · have h : ¬ rnds z.cps.toList.length s0 = [84] := fun z => h (decide_eq_true z)
        refine ⟨_, rfl, rfl, ?_⟩
        rw [empty_eq]
        refine k _ ⟨fun e => .inl (of_decide_eq_true e), ?_⟩
        rintro (e | e)
        · exact decide_eq_true e
        · exact absurd (key.mpr e) h
end
end K11
namespace TT
open PySem PySem.Spec PyProof.Rows L2
theorem capOk_one {X : Cx} {scope : Scope} {N : List Str} {n j : Nat} (own : List Str) (x : Str) (hN : N = own ++ [x]) (hn : n = own.length) (kind : scope.kind = .function) (cell : ∀ y ∈ scope.names, y.2 ≠ .cell) (names : ∀ y ∈ scope.names, y.2 = .local → scope.names.lookup y.1 = some .local)
    (free : ∀ y ∈ scope.names, y.2 = .free → y.1 = x) (hX : X.env.scope.names.lookup x = some .cell) (hj : X.N[j]? = some x) (hs : scope.names.lookup x = some .free) : CapOk X scope N n [j] where
  kind := kind
  cell := cell
  names := names
  len := by rw [hN, hn, List.length_append]; rfl
  free := fun y hy hf => by rw [free y hy hf]; exact hX
  caps := fun i k h => by
    cases i with
    | zero =>
      cases h
      exact ⟨x, by rw [hN, hn]; simp, hj, hX, hs⟩
    | succ i => simp at h
theorem cap_keep1 {a x : V} {j : Nat} {v : V} (h : ([none, some a] : L2.St)[j]? = some (some v)) : ([some x, some a] : L2.St)[j]? = some (some v) := by
  match j, h with
  | 0, h => cases h
  | 1, h => exact h
  | j + 2, h => simp at h
end TT
namespace K11
open PySem L2 TT TX
theorem nd_cell : (["_law_cell", "_law_pieces"] : List Str).Nodup := by decide +kernel
abbrev NA : List Str := ["_law_script", "_law_way", "_law_pieces", "_law_line", "_law_frames", "_law_pair", "_law_place", "_law_sign", "_law_signs"]
theorem scAsked : FnScope NA ["_law_script"] (defScope sAsked) := ⟨rfl, rfl, rfl, by decide +kernel, rfl, by decide +kernel, by decide +kernel⟩
abbrev askedSt (i : Nat) : Stmt := (defBody sAsked).getD i (.Pass ⟨0, 0, 0, 0⟩)
theorem PS.wk {X : Cx} {st : Stmt} {t t' : TS} (h : PS X st t) (k : ∀ D σ H, t' D σ H → t D σ H) : PS X st t' := fun pins s σ H Q I q => h pins s σ H Q I (k Q σ H q)
def pieceL : List Str := [Str.ofString "a", Str.ofString "b(", Str.ofString ")", Str.ofString " ", Str.ofString "xy", Str.ofString "(", Str.ofString "a b", Str.ofString ") c"]
def pieceAt (n : Int) : Str := pieceL.getD (n % 8).toNat (Str.ofString "")
theorem piece_sm (n : Int) : Sm 3 (pieceAt n) := by
  have key : ∀ s ∈ pieceL, (s.cps.toList.all (fun c => decide (c < 128)) && decide (s.length ≤ 3)) = true := by decide +kernel
  have h1 : 0 ≤ n % 8 := Int.emod_nonneg _ (by decide)
  have h2 : n % 8 < 8 := Int.emod_lt_of_pos _ (by decide)
  have h3 : (n % 8).toNat < pieceL.length := by show _ < 8; omega
  refine Sm.dec (key _ ?_)
  unfold pieceAt
  rw [List.getD_eq_getElem?_getD, List.getElem?_eq_getElem h3]
  exact List.getElem_mem h3
theorem piece_at (n : Int) : atI (pieceL.map V.str) (n % 8) = some (V.str (pieceAt n)) := by
  have h1 : 0 ≤ n % 8 := Int.emod_nonneg _ (by decide)
  have h2 : n % 8 < 8 := Int.emod_lt_of_pos _ (by decide)
  obtain ⟨j, hj⟩ := Int.eq_ofNat_of_zero_le h1
  have h3 : j < pieceL.length := by show _ < 8; omega
  unfold pieceAt
  rw [hj] at h2 ⊢
  refine atI_nat ?_
  rw [List.getElem?_map, List.getD_eq_getElem?_getD, Int.toNat_natCast, List.getElem?_eq_getElem h3]
  rfl
theorem cut_ints (ns : List Int) (lo hi : Nat) : ∃ cells : List Int, cutV (ns.map V.int) (some (lo : Int)) (some (hi : Int)) = cells.map V.int ∧ cells.length ≤ hi - lo := by
  refine ⟨(ns.drop (min lo ns.length)).take (min hi ns.length - min lo ns.length), ?_, ?_⟩
  · unfold cutV
    have e1 : HT.sIx (ns.map V.int).length 0 (some (lo : Int)) = min lo ns.length := by rw [List.length_map]; exact HT.sIx_nat _ _ lo
    have e2 : HT.sIx (ns.map V.int).length (ns.map V.int).length (some (hi : Int)) = min hi ns.length := by rw [List.length_map]; exact HT.sIx_nat _ _ hi
    rw [e1, e2, List.map_take, List.map_drop]
  · rw [List.length_take]; omega
abbrev XA (P : Program) (w : World) (K : PySem.W.Frag) (mg : Str → Option Value) (base : Heap) (f : Addr) (cdv : Value) (A : Around) (outer : List Env) (s : Shared) (H0 : Hp) (E : XK) : Cx := (cxOf CX0 P w K mg base NA "_law_asked" (defScope sAsked) f cdv A outer s H0 E).nox
section
variable {P : Program} {w : World} {K : PySem.W.Frag} {mg : Str → Option Value} {base : Heap} {f : Addr} {cdv : Value} {A : Around} {outer : List Env} {s : Shared} {H0 : Hp} {E : XK}
theorem lk0 : (defScope sAsked).names.lookup (Str.ofString "_law_script") = some NameKind.local := by decide +kernel
theorem pA0 {pos : Pos} : PE (XA P w K mg base f cdv A outer s H0 E) (.Name "_law_script" pos) (tVar 0) := pv 0 (hv := Or.inl lk0)
theorem lk1 : (defScope sAsked).names.lookup (Str.ofString "_law_way") = some NameKind.local := by decide +kernel
theorem pA1 {pos : Pos} : PE (XA P w K mg base f cdv A outer s H0 E) (.Name "_law_way" pos) (tVar 1) := pv 1 (hv := Or.inl lk1)
theorem sA1 {e : Expr} {te : TE} {pos pos' : Pos} (he : PE (XA P w K mg base f cdv A outer s H0 E) e te) (hs : swapsWith e (some (.Name "_law_way" pos')) pos.line (XA P w K mg base f cdv A outer s H0 E).env = pure false := by rfl) : PS (XA P w K mg base f cdv A outer s H0 E) (.Assign [.Name "_law_way" pos'] e pos) (tAsg te (gName 1)) := ps_set (i := 1) scAsked.nd rfl (Or.inl lk1) he hs
theorem lk3 : (defScope sAsked).names.lookup (Str.ofString "_law_line") = some NameKind.local := by decide +kernel
theorem pA3 {pos : Pos} : PE (XA P w K mg base f cdv A outer s H0 E) (.Name "_law_line" pos) (tVar 3) := pv 3 (hv := Or.inl lk3)
theorem sA3 {e : Expr} {te : TE} {pos pos' : Pos} (he : PE (XA P w K mg base f cdv A outer s H0 E) e te) (hs : swapsWith e (some (.Name "_law_line" pos')) pos.line (XA P w K mg base f cdv A outer s H0 E).env = pure false := by rfl) : PS (XA P w K mg base f cdv A outer s H0 E) (.Assign [.Name "_law_line" pos'] e pos) (tAsg te (gName 3)) := ps_set (i := 3) scAsked.nd rfl (Or.inl lk3) he hs
theorem lk4 : (defScope sAsked).names.lookup (Str.ofString "_law_frames") = some NameKind.local := by decide +kernel
theorem pA4 {pos : Pos} : PE (XA P w K mg base f cdv A outer s H0 E) (.Name "_law_frames" pos) (tVar 4) := pv 4 (hv := Or.inl lk4)
theorem sA4 {e : Expr} {te : TE} {pos pos' : Pos} (he : PE (XA P w K mg base f cdv A outer s H0 E) e te) (hs : swapsWith e (some (.Name "_law_frames" pos')) pos.line (XA P w K mg base f cdv A outer s H0 E).env = pure false := by rfl) : PS (XA P w K mg base f cdv A outer s H0 E) (.Assign [.Name "_law_frames" pos'] e pos) (tAsg te (gName 4)) := ps_set (i := 4) scAsked.nd rfl (Or.inl lk4) he hs
theorem lk5 : (defScope sAsked).names.lookup (Str.ofString "_law_pair") = some NameKind.local := by decide +kernel
theorem pA5 {pos : Pos} : PE (XA P w K mg base f cdv A outer s H0 E) (.Name "_law_pair" pos) (tVar 5) := pv 5 (hv := Or.inl lk5)
theorem sA5 {e : Expr} {te : TE} {pos pos' : Pos} (he : PE (XA P w K mg base f cdv A outer s H0 E) e te) (hs : swapsWith e (some (.Name "_law_pair" pos')) pos.line (XA P w K mg base f cdv A outer s H0 E).env = pure false := by rfl) : PS (XA P w K mg base f cdv A outer s H0 E) (.Assign [.Name "_law_pair" pos'] e pos) (tAsg te (gName 5)) := ps_set (i := 5) scAsked.nd rfl (Or.inl lk5) he hs
theorem lk6 : (defScope sAsked).names.lookup (Str.ofString "_law_place") = some NameKind.local := by decide +kernel
theorem pA6 {pos : Pos} : PE (XA P w K mg base f cdv A outer s H0 E) (.Name "_law_place" pos) (tVar 6) := pv 6 (hv := Or.inl lk6)
theorem sA6 {e : Expr} {te : TE} {pos pos' : Pos} (he : PE (XA P w K mg base f cdv A outer s H0 E) e te) (hs : swapsWith e (some (.Name "_law_place" pos')) pos.line (XA P w K mg base f cdv A outer s H0 E).env = pure false := by rfl) : PS (XA P w K mg base f cdv A outer s H0 E) (.Assign [.Name "_law_place" pos'] e pos) (tAsg te (gName 6)) := ps_set (i := 6) scAsked.nd rfl (Or.inl lk6) he hs
theorem lk7 : (defScope sAsked).names.lookup (Str.ofString "_law_sign") = some NameKind.local := by decide +kernel
theorem pA7 {pos : Pos} : PE (XA P w K mg base f cdv A outer s H0 E) (.Name "_law_sign" pos) (tVar 7) := pv 7 (hv := Or.inl lk7)
theorem sA7 {e : Expr} {te : TE} {pos pos' : Pos} (he : PE (XA P w K mg base f cdv A outer s H0 E) e te) (hs : swapsWith e (some (.Name "_law_sign" pos')) pos.line (XA P w K mg base f cdv A outer s H0 E).env = pure false := by rfl) : PS (XA P w K mg base f cdv A outer s H0 E) (.Assign [.Name "_law_sign" pos'] e pos) (tAsg te (gName 7)) := ps_set (i := 7) scAsked.nd rfl (Or.inl lk7) he hs
theorem lk8 : (defScope sAsked).names.lookup (Str.ofString "_law_signs") = some NameKind.local := by decide +kernel
theorem pA8 {pos : Pos} : PE (XA P w K mg base f cdv A outer s H0 E) (.Name "_law_signs" pos) (tVar 8) := pv 8 (hv := Or.inl lk8)
theorem sA8 {e : Expr} {te : TE} {pos pos' : Pos} (he : PE (XA P w K mg base f cdv A outer s H0 E) e te) (hs : swapsWith e (some (.Name "_law_signs" pos')) pos.line (XA P w K mg base f cdv A outer s H0 E).env = pure false := by rfl) : PS (XA P w K mg base f cdv A outer s H0 E) (.Assign [.Name "_law_signs" pos'] e pos) (tAsg te (gName 8)) := ps_set (i := 8) scAsked.nd rfl (Or.inl lk8) he hs
end
end K11
namespace K11
open PySem L2 TT TX
seal PE PA PT PS PSs
section
variable {P : Program} {w : World} {K : PySem.W.Frag} {mg : Str → Option Value} {base : Heap}
/-- the way by pieces -/
inductive JoinT (K : PySem.W.Frag) (D : Ends) (σ : L2.St) (H : Hp) : Prop
  | mk (a : Addr) (ns : List Int) (way : Int) (e : σ = [some (.ref a), some (.int way), none, none, none, none, none, none, none]) (hS : SqL K H a (ns.map V.int)) (k1 : way = 4 → ∀ (H' : Hp) (z : Str), Same H H' → Sm 900 z → D.rt (.str z) H') (k2 : way ≠ 4 → D.nx σ H) : JoinT K D σ H
theorem asked_join {f : Addr} {cdv : Value} {A : Around} {outer : List Env} {s : Shared} {H0 : Hp} {E : XK} : PS (XA P w K mg base f cdv A outer s H0 E) (askedSt 1) (JoinT K) := by
  have nd := scAsked.nd
  refine PS.wk (ps_if (pt_cmpR op_eq pA1 pe_int (nomark _))
        (pss_cons (ps_set (i := 2) nd rfl (Or.inr rfl) (pe_lst (pa_cons pe_str (pa_cons pe_str (pa_cons pe_str (pa_cons pe_str (pa_cons pe_str (pa_cons pe_str (pa_cons pe_str (pa_cons pe_str pa_nil))))))))))
        (pss_one (ps_ret (pe_bm PySem.F.plainAttrs_str PySem.F.slot_str_join PySem.F.type_str_join mt_join pe_str (pa_cons (pe_compC (N := ["_law_cell", "_law_pieces"]) (n := 1) (caps := [2]) (g := gName 0) (te := tOp (rIxL K) (tVar 1) (tOp (rI (fun _ j => 0 < j) fun i j => .int (i % j)) (tVar 0) (tC (.int 8)))) rfl (pi_list (pe_slice sl_list pA0 (po_some pe_int) (po_some pe_int))) (capOk_one ["_law_cell"] "_law_pieces" rfl rfl rfl (by decide +kernel) (by decide +kernel) (by decide +kernel) rfl rfl rfl)
          (fun cl C s2 H2 fp => pg_name (i := 0) nd_cell rfl (Or.inl rfl) (.inr rfl)) (fun cl C s2 H2 fp => pe_ix ix_list (pv 1) (pe_op op_mod (pv 0) pe_int) (fun _ _ => rfl))) pa_nil)))))
        pss_nil) fun D σ H h => ?_
  obtain ⟨a, ns, way, rfl, hS, k1, k2⟩ := h
  refine ⟨_, rfl, rfl, _, rfl, ?_⟩
  refine ite2 (fun h4 => ?_) (fun h4 => ?_)
  · have h4 : way = 4 := by
      have := of_decide_eq_true h4
      injection this
    refine ⟨(by show 8 ≤ sizeLine; decide), fun pp hpp => ?_⟩
    refine ⟨rfl, _, rfl, _, rfl, _, rfl, a, _, rfl, (same_upd hpp).seq hS, fun c hc => ⟨c, rfl, ⟨_, SqL.of upd_same⟩, ?_⟩⟩
    obtain ⟨cells, ec, hcl⟩ := cut_ints ns 1 16
    have ec : cutV (ns.map V.int) (some 1) (some 16) = cells.map V.int := ec
    rw [ec]
    have s0 : Same (upd H pp (.lst (pieceL.map V.str))) (upd (upd H pp (.lst (pieceL.map V.str))) c (.lst (cells.map V.int))) := same_upd hc
    refine comp_fill (G := G0) (J := Itl K c) cells.length (fun i => .str (pieceAt (cells.getD i 0))) (fun _ _ e => nomatch e) (by omega)
      (fun i H2 hi s2 => ⟨cells.map V.int, .int cells[i], SqL.of (s2 _ _ upd_same), by rw [List.getElem?_map, List.getElem?_eq_getElem hi]; rfl⟩) (fun H2 s2 => ⟨cells.map V.int, SqL.of (s2 _ _ upd_same), by rw [List.length_map]; exact Nat.le_refl _⟩) ?_ ?_
    · rintro i y H2 H3 hi s2 ⟨rfl, hy⟩
      refine ⟨rfl, fun G2 xx R kR => ?_⟩
      have hy := hy (cells.map V.int) (SqL.of (s2 _ _ upd_same))
      rw [List.getElem?_map, List.getElem?_eq_getElem hi] at hy
      obtain rfl : V.int cells[i] = y := Option.some.inj hy
      refine ⟨fun j v' hj => cap_keep1 hj, _, rfl, _, rfl, _, _, rfl, rfl, (by show (0 : Int) < 8; decide), pp, _, _, _, rfl, rfl, SqL.of (s2 _ _ (s0 _ _ upd_same)), piece_at _, kR G2 _ _ (Ext.refl xx.gh) ?_⟩
      rw [List.getD_eq_getElem?_getD, List.getElem?_eq_getElem hi]
      exact .str _
    · intro G' H' l x' rl
      have e0 : (List.range cells.length).map (fun i => TT.D.str (pieceAt (cells.getD i 0))) = ((List.range cells.length).map fun i => pieceAt (cells.getD i 0)).map TT.D.str := by rw [List.map_map]; rfl
      rw [e0] at rl
      cases rl with
      | lst h t =>
        have e1 := reps_strs t
        subst e1
        have hsm : ∀ u ∈ (List.range cells.length).map fun i => pieceAt (cells.getD i 0), Sm 3 u := by
          intro u hu
          obtain ⟨i, _, rfl⟩ := List.mem_map.mp hu
          exact piece_sm _
        have hj := Sm.join _ hsm
        rw [List.length_map, List.length_range] at hj
        refine ⟨_, l, _, rfl, rfl, SqL.of (x'.gh _ _ h), ?_, ?_⟩
        · refine PyProof.Rows.joinOk_of ?_
          have hs : (((List.range cells.length).map fun i => pieceAt (cells.getD i 0)).map (·.length)).sum ≤ 3 * cells.length := by
            have : ∀ l : List Str, (∀ u ∈ l, Sm 3 u) → (l.map (·.length)).sum ≤ 3 * l.length := by
              intro l
              induction l with
              | nil => intro _; exact Nat.le_refl _
              | cons u r ih =>
                intro hh
                have h1 := (hh u List.mem_cons_self).2
                have h2 := ih fun v hv => hh v (List.mem_cons_of_mem _ hv)
                simp only [List.map_cons, List.sum_cons, List.length_cons]
                omega
            have := this _ hsm
            rwa [List.length_map, List.length_range] at this
          have e2 : (Str.ofString "").length = 0 := by rw [sep0_eq]; rfl
          rw [e2]
          omega
        · show D.rt (.str (Builtin.Str.glued (Str.ofString "") _)) H'
          rw [StrLaws.glued_eq_join]
          exact k1 h4 H' _ (((same_upd hpp).trans (same_upd hc)).trans x'.h) (hj.mono (by omega))
  · refine k2 fun e => h4 (decide_eq_true (by rw [e]))
end
end K11
namespace K11
open PySem L2 TT TX
set_option maxHeartbeats 400000
theorem sm0 : Sm 4 (Str.ofString "a(") := Sm.dec (by decide +kernel)
theorem sm1 : Sm 4 (Str.ofString ")") := Sm.dec (by decide +kernel)
theorem sm2 : Sm 4 (Str.ofString "b ") := Sm.dec (by decide +kernel)
theorem sm3 : Sm 4 (Str.ofString "a( ") := Sm.dec (by decide +kernel)
theorem sm4 : Sm 4 (Str.ofString " )") := Sm.dec (by decide +kernel)
theorem sm5 : Sm 4 (Str.ofString "(") := Sm.dec (by decide +kernel)
theorem sm6 : Sm 4 (Str.ofString "  a") := Sm.dec (by decide +kernel)
theorem sm7 : Sm 4 (Str.ofString " ") := Sm.dec (by decide +kernel)
theorem sm8 : Sm 4 (Str.ofString "()") := Sm.dec (by decide +kernel)
theorem sm9 : Sm 4 (Str.ofString "a(b ") := Sm.dec (by decide +kernel)
theorem sm10 : Sm 4 (Str.ofString ") c") := Sm.dec (by decide +kernel)
theorem smE : Sm 4 (Str.ofString "") := by
  rw [sep0_eq]
  exact ⟨(fun c hc => nomatch hc), Nat.zero_le _⟩
theorem swaps_list {es : List Expr} {p : Pos} {t : Option Expr} {l : Nat} {env : Env} : swapsWith (.List es p) t l env = pure false := rfl
theorem swaps_bin {x y : Expr} {o : Operator} {p : Pos} {t : Option Expr} {l : Nat} {env : Env} : swapsWith (.BinOp x o y p) t l env = pure false := rfl
seal PE PA PT PS PSs
section
variable {P : Program} {w : World} {K : PySem.W.Frag} {mg : Str → Option Value} {base : Heap}
/-- the way by frames -/
inductive FrameT (K : PySem.W.Frag) (D : Ends) (σ : L2.St) (H : Hp) : Prop
  | mk (a : Addr) (ns : List Int) (way : Int) (l : Str) (e : σ = [some (.ref a), some (.int way), none, some (.str l), none, none, none, none, none]) (hS : SqL K H a (ns.map V.int)) (hl : Sm 400 l) (k1 : ∀ (H' : Hp) (z : Str), Same H H' → Sm 900 z → D.rt (.str z) H') (k2 : D.nx σ H) : FrameT K D σ H
theorem asked_frame {f : Addr} {cdv : Value} {A : Around} {outer : List Env} {s : Shared} {H0 : Hp} {E : XK} (hr : Room 6 (A.deeper (PyProof.Rows.envOfC "_law_asked" (defScope sAsked) s.heap.objs.size f cdv))) (F_lawat : Ok1 P w K mg base 3 "_law_at" ["_law_script", "_law_k"] (spLawAt K)) :
    PS (XA P w K mg base f cdv A outer s H0 E) (askedSt 3) (FrameT K) := by
  have big := line_big
  refine PS.wk (ps_if (pt_cmpR op_gt pA1 pe_int (nomark _))
        (pss_cons (sA4 (pe_lst (prs_cons sm0 sm1 (prs_cons sm2 smE (prs_cons sm0 smE (prs_cons smE sm1 (prs_cons sm3 sm1 (prs_cons sm0 sm4 prs_nil))))))) swaps_list)
        (pss_cons (sA4 (pe_op op_cat pA4 (pe_lst (prs_cons sm5 sm1 (prs_cons smE sm6 (prs_cons sm7 smE (prs_cons smE sm8 (prs_cons sm9 sm10 (prs_cons smE sm7 prs_nil)))))))) swaps_bin)
        (pss_cons (sA5 (pe_ix ix_list pA4 (pe_op op_mod (pe_fn F_lawat (hr.mono (by decide)) rfl (pa_cons pA0 (pa_cons pe_int pa_nil))) pe_int) (fun _ _ => rfl)))
        (pss_one (ps_ret (pe_op op_add_str (pe_op op_add_str (pe_ix ix_list pA5 pe_int (fun _ _ => rfl)) pA3) (pe_ix ix_list pA5 pe_int (fun _ _ => rfl))))))))
        pss_nil) fun D σ H h => ?_
  obtain ⟨a, ns, way, l, rfl, hS, hl, k1, k2⟩ := h
  refine ⟨_, rfl, _, _, rfl, rfl, _, rfl, ?_⟩
  refine ite2 (fun _ => ?_) (fun _ => k2)
  intro H1 vs1 s1 hn1 hp1
  refine ⟨(by omega), fun f1 hf1 => ?_⟩
  refine ⟨_, rfl, ?_⟩
  intro H2 vs2 s2 hn2 hp2
  refine ⟨(by omega), fun f2 hf2 => ?_⟩
  refine ⟨f1, f2, vs1, vs2, rfl, rfl, same_upd hf2 _ _ (s2 _ _ upd_same), upd_same, (by omega), fun f3 hf3 => ?_⟩
  have s3 : Same H1 (upd (upd H2 f2 (.lst vs2)) f3 (.lst (vs1 ++ vs2))) := (same_upd hf1).trans (s2.trans ((same_upd hf2).trans (same_upd hf3)))
  have s4 : Same H2 (upd (upd H2 f2 (.lst vs2)) f3 (.lst (vs1 ++ vs2))) := (same_upd hf2).trans (same_upd hf3)
  have hf : upd (upd H2 f2 (.lst vs2)) f3 (.lst (vs1 ++ vs2)) f3 = some (.lst (vs1 ++ vs2)) := upd_same
  have hp : ∀ v ∈ vs1 ++ vs2, IsPair (upd (upd H2 f2 (.lst vs2)) f3 (.lst (vs1 ++ vs2))) v := fun v hv => by
    rcases List.mem_append.mp hv with hv | hv
    · exact (hp1 v hv).mono s3
    · exact (hp2 v hv).mono s4
  have hs := s1.trans s3
  generalize upd (upd H2 f2 (.lst vs2)) f3 (.lst (vs1 ++ vs2)) = H3 at *
  have hvl : (vs1 ++ vs2).length = 12 := by rw [List.length_append]; omega
  generalize vs1 ++ vs2 = vs at *
  refine ⟨_, rfl, _, rfl, a, ns, 1, rfl, hs.seq hS, fun m1 => ⟨_, _, rfl, rfl, (by show (0 : Int) < 12; decide), ?_⟩⟩
  have b1 : 0 ≤ m1 % 12 := Int.emod_nonneg _ (by decide)
  have b2 : m1 % 12 < 12 := Int.emod_lt_of_pos _ (by decide)
  obtain ⟨j, hj⟩ := Int.eq_ofNat_of_zero_le b1
  have hjl : j < vs.length := by omega
  have hat : atI vs (m1 % 12) = some vs[j] := by rw [hj]; exact atI_nat (List.getElem?_eq_getElem hjl)
  refine ⟨f3, vs, _, vs[j], rfl, rfl, SqL.of hf, hat, ?_⟩
  obtain ⟨q, x, y, e, hq, hx, hy⟩ := hp vs[j] (List.getElem_mem hjl)
  rw [e]
  have hl1 := hx.2
  have hl2 := hy.2
  have hl3 := hl.2
  refine ⟨_, rfl, q, _, _, _, rfl, rfl, SqL.of hq, atI_nat (j := 0) rfl, _, rfl, _, _, rfl, rfl, (by omega), _, rfl, q, _, _, _, rfl, rfl, SqL.of hq, atI_nat (j := 1) rfl, _, _, rfl, rfl, ?_, ?_⟩
  · rw [Str.length_append]; omega
  · exact k1 H3 _ hs (((hx.app hl).app hy).mono (by decide))
end
end K11
namespace K11
open PySem L2 TT TX
set_option maxHeartbeats 1000000
theorem sg7 : Sm 7 (Str.ofString "() aA1,") := Sm.dec (by decide +kernel)
theorem sgA : Sm 60 (Str.ofString "!\"#$&'()*+,-./0123456789:;<=>?@ABCDEFGHIJKLMNOPQRSTUVWXYZ") := Sm.dec (by decide +kernel)
theorem sgB : Sm 40 (Str.ofString "[\\]^_`abcdefghijklmnopqrstuvwxyz{|}~ ") := Sm.dec (by decide +kernel)
def sgAll : Str := Str.ofString "!\"#$&'()*+,-./0123456789:;<=>?@ABCDEFGHIJKLMNOPQRSTUVWXYZ" ++ Str.ofString "[\\]^_`abcdefghijklmnopqrstuvwxyz{|}~ "
theorem sgAB_pos : 0 < sgAll.length := by decide +kernel
seal PE PA PT PS PSs
section
variable {P : Program} {w : World} {K : PySem.W.Frag} {mg : Str → Option Value} {base : Heap}
/-! ### _law_asked -/
def spAsked (K : PySem.W.Frag) : Sp := fun vs H Q _ => ∃ (a : Addr) (ns : List Int), vs = [.ref a] ∧ SqL K H a (ns.map V.int) ∧ ns.length ≤ 63 ∧ ∀ (H' : Hp) (z : Str), Same H H' → Sm 900 z → Q (.str z) H'
theorem ok_asked {f : Addr} {fd : FuncData} (F : Fun K "_law_asked" "_law_asked" sAsked f fd) (T : Txt mg) (F_lawat : Ok1 P w K mg base 3 "_law_at" ["_law_script", "_law_k"] (spLawAt K)) (F_room : Ok1 P w K mg base 3 "_law_room" ["_law_script", "_law_most", "_law_bound"] (spRoom K))
    (F_drawn : Ok1 P w K mg base 5 "_law_drawn_row" ["_law_cells"] spDrawn) (F_lineof : Ok1 P w K mg base 5 "_law_line_of" ["_law_row"] spLineOf) : FnOk P w K mg base CX0 7 f fd ["_law_script"] (spAsked K) := by
  refine F.ok scAsked (fun vs H Q E h => ?_) (fun cdv A outer s H vs Q E hr h => ?_)
  · obtain ⟨a, ns, rfl, _⟩ := h
    rfl
  · obtain ⟨a, ns, rfl, hS, hlen, k⟩ := h
    have big := line_big
    refine ⟨_, (pss_cons (sA1 (pe_op op_mod (pe_fn F_lawat (hr.mono (by decide)) rfl (pa_cons pA0 (pa_cons pe_int pa_nil))) pe_int))
      (pss_cons asked_join
      (pss_cons (sA3 (pe_fn F_lineof (hr.mono (by decide)) rfl (pa_cons (pe_fn F_drawn (hr.mono (by decide)) rfl (pa_cons (pe_slice sl_list pA0 (po_some pe_int) (po_some (pe_op op_add pe_int (pe_fn F_room (hr.mono (by decide)) rfl (pa_cons pA0 (pa_cons pe_int (pa_cons pe_int pa_nil))))))) pa_nil)) pa_nil)))
      (pss_cons (asked_frame hr F_lawat)
      (pss_cons (sA6 (pe_op op_mod (pe_fn F_lawat (hr.mono (by decide)) rfl (pa_cons pA0 (pa_cons pe_int pa_nil))) (pe_op op_add (pe_callB call_len_str rfl T.len bt_len (pa_cons pA3 pa_nil)) pe_int)))
      (pss_cons (sA7 (pe_ix ix_str pe_str (pe_op op_mod (pe_fn F_lawat (hr.mono (by decide)) rfl (pa_cons pA0 (pa_cons pe_int pa_nil))) pe_int) (fun _ _ => rfl)))
      (pss_cons (ps_ifM (pt_cmpR op_eq (pe_op op_mod (pe_op op_fdiv (pe_fn F_lawat (hr.mono (by decide)) rfl (pa_cons pA0 (pa_cons pe_int pa_nil))) pe_int) pe_int) pe_int (nomark _))
        (pss_cons (sA8 pe_str)
        (pss_cons (sA8 (pe_op op_add_str pA8 pe_str))
        (pss_one (sA7 (pe_ix ix_str pA8 (pe_op op_mod (pe_fn F_lawat (hr.mono (by decide)) rfl (pa_cons pA0 (pa_cons pe_int pa_nil))) (pe_callB call_len_str rfl T.len bt_len (pa_cons pA8 pa_nil))) (fun _ _ => rfl))))))
        pss_nil)
      (pss_cons (ps_if (pt_cmpR op_eq pA1 pe_int (nomark _))
        (pss_one (ps_ret (pe_op op_add_str (pe_op op_add_str (pe_slice sl_str pA3 po_none (po_some pA6)) pA7) (pe_slice sl_str pA3 (po_some (pe_op op_add pA6 pe_int)) po_none))))
        pss_nil)
      (pss_cons (ps_if (pt_cmpR op_eq pA1 pe_int (nomark _))
        (pss_one (ps_ret (pe_op op_add_str (pe_slice sl_str pA3 po_none (po_some pA6)) (pe_slice sl_str pA3 (po_some (pe_op op_add pA6 pe_int)) po_none))))
        pss_nil)
      (pss_cons (ps_if (pt_cmpR op_eq pA1 pe_int (nomark _))
        (pss_one (ps_ret (pe_op op_add_str (pe_op op_add_str (pe_slice sl_str pA3 po_none (po_some pA6)) pA7) (pe_slice sl_str pA3 (po_some pA6) po_none))))
        pss_nil)
      (pss_one (ps_ret pA3)))))))))))), ?_⟩
    refine ⟨_, rfl, a, ns, 0, rfl, hS, fun m0 => ⟨_, _, rfl, rfl, (by show (0 : Int) < 7; decide), ?_⟩⟩
    refine ⟨a, ns, _, rfl, hS, fun _ => k, fun _ => ?_⟩
    refine ⟨_, rfl, _, rfl, _, rfl, a, ns, 12, 60, rfl, hS, hlen, fun H1 s1 => ⟨_, _, rfl, rfl, _, rfl, a, _, rfl, s1.seq hS, fun c hc => ?_⟩⟩
    obtain ⟨cells, ec, hcl⟩ := cut_ints ns 3 15
    have ec : cutV (ns.map V.int) (some 3) (some (3 + 12)) = cells.map V.int := ec
    rw [ec]
    refine ⟨_, c, cells, rfl, Same.refl _, upd_same, by omega, fun G2 H2 r ts x2 rr hk hw => ?_⟩
    have hsm := row_sm hw
    have hsm2 := hsm.2
    rw [len_mk] at hsm2
    refine ⟨G2, r, ts, rfl, x2.gh, rr, words_goods ts hw, by omega, by omega, fun H3 s3 => ?_⟩
    have sH : Same H H3 := s1.trans ((same_upd hc).trans (x2.h.trans s3))
    have hl : Sm 400 ⟨(txts false ts).toArray⟩ := hsm.mono (by omega)
    generalize (⟨(txts false ts).toArray⟩ : Str) = l at hl ⊢
    have hll := hl.2
    have hS3 := sH.seq hS
    have k3 : ∀ (H' : Hp) (z : Str), Same H3 H' → Sm 900 z → Q (.str z) H' := fun H' z s' hz => k H' z (sH.trans s') hz
    refine ⟨a, ns, _, l, rfl, hS3, hl, k3, ?_⟩
    -- place, sign
    refine ⟨_, rfl, a, ns, 1, rfl, hS3, fun m1 => ⟨_, rfl, l, rfl, (by omega), _, _, rfl, rfl, _, _, rfl, rfl, (by show (0 : Int) < (l.length : Int) + 1; omega), ?_⟩⟩
    refine ⟨_, rfl, a, ns, 2, rfl, hS3, fun m2 => ⟨_, _, rfl, rfl, (by show (0 : Int) < 7; decide), ?_⟩⟩
    obtain ⟨c, hat, hmem⟩ := at_str (z := Str.ofString "() aA1,") m2 (by decide +kernel)
    have e7 : ((Str.ofString "() aA1,").length : Int) = 7 := by decide +kernel
    rw [e7] at hat
    have hasc : asc (Str.ofString "() aA1,") := sg7.1
    refine ⟨_, _, c, rfl, rfl, (by have := sg7.2; omega), hat, ?_⟩
    -- another sign
    refine ⟨fun σ' H' => ∃ (d : Nat) (v8 : Option V), σ' = [some (.ref a), some (.int (m0 % 7)), none, some (.str l), none, none, some (.int (m1 % ((l.length : Int) + 1))), some (.str ⟨#[d]⟩), v8] ∧ d < 128 ∧ H' = H3, ?_, ?_⟩
    · refine ⟨_, rfl, a, ns, 2, rfl, hS3, fun m3 => ⟨_, _, rfl, rfl, ⟨by decide, by decide⟩, _, _, rfl, rfl, (by show (0 : Int) < 3; decide), rfl, _, rfl, ?_⟩⟩
      refine ite2 (fun _ => ?_) (fun _ => ?_)
      · refine ⟨_, rfl, _, _, rfl, rfl, (by have h1 := sgA.2; have h2 := sgB.2; omega), ?_⟩
        refine ⟨_, rfl, _, rfl, a, ns, 2, rfl, hS3, fun m4 => ⟨_, rfl, _, rfl, ?_, _, _, rfl, rfl, ?_, ?_⟩⟩
        · have := (sgA.app sgB).2; omega
        · have := sgAB_pos; show (0 : Int) < (sgAll.length : Int); omega
        · obtain ⟨d, hd, hdm⟩ := at_str (z := sgAll) m4 sgAB_pos
          refine ⟨_, _, d, rfl, rfl, (by have := (sgA.app sgB).2; exact Nat.le_trans this (by decide)), hd, d, _, rfl, (sgA.app sgB).1 d hdm, rfl⟩
      · exact ⟨c, _, rfl, hasc c hmem, rfl⟩
    rintro σ' H' ⟨d, v8, rfl, hd, rfl⟩
    have hone := Sm.one hd
    have hz : ∀ {x : Str}, Sm 400 x → x.length ≤ sizeLine := fun h => by have := h.2; omega
    have lapp : ∀ {n m : Nat} {x y : Str}, Sm n x → Sm m y → n + m ≤ 10000 → x.length + y.length ≤ sizeLine := fun h1 h2 h3 => by have := h1.2; have := h2.2; omega
    refine ⟨_, rfl, rfl, _, rfl, ?_⟩
    refine ite2 (fun _ => ?_) (fun _ => ?_)
    · refine ⟨_, rfl, _, rfl, _, rfl, _, rfl, hz hl, _, rfl, _, _, rfl, rfl, lapp (hl.cut _ _) hone (by decide), _, rfl, _, rfl, _, _, rfl, rfl, _, rfl, _, rfl, hz hl, _, _, rfl, rfl, lapp ((hl.cut _ _).app hone) (hl.cut _ _) (by decide), ?_⟩
      exact k3 _ _ (Same.refl _) ((((hl.cut _ _).app hone).app (hl.cut _ _)).mono (by decide))
    refine ⟨_, rfl, rfl, _, rfl, ?_⟩
    refine ite2 (fun _ => ?_) (fun _ => ?_)
    · refine ⟨_, rfl, _, rfl, _, rfl, _, rfl, hz hl, _, rfl, _, rfl, _, _, rfl, rfl, _, rfl, _, rfl, hz hl, _, _, rfl, rfl, lapp (hl.cut _ _) (hl.cut _ _) (by decide), ?_⟩
      exact k3 _ _ (Same.refl _) (((hl.cut _ _).app (hl.cut _ _)).mono (by decide))
    refine ⟨_, rfl, rfl, _, rfl, ?_⟩
    refine ite2 (fun _ => ?_) (fun _ => ?_)
    · refine ⟨_, rfl, _, rfl, _, rfl, _, rfl, hz hl, _, rfl, _, _, rfl, rfl, lapp (hl.cut _ _) hone (by decide), _, rfl, _, rfl, _, rfl, _, rfl, hz hl, _, _, rfl, rfl, lapp ((hl.cut _ _).app hone) (hl.cut _ _) (by decide), ?_⟩
      exact k3 _ _ (Same.refl _) ((((hl.cut _ _).app hone).app (hl.cut _ _)).mono (by decide))
    exact ⟨_, rfl, k3 _ _ (Same.refl _) (hl.mono (by decide))⟩
end
end K11
namespace K11
open PySem L2 TT TX
end K11
namespace TT
open PySem PySem.Spec PyProof.Rows L2
def tMid (t : TS) : TS := fun De σ H => ∃ N : L2.St → Hp → Prop, t { De with nx := N } σ H ∧ ∀ σ' H', N σ' H' → De.nx σ' H'
theorem ps_mid {X : Cx} {st : Stmt} {t : TS} (h : PS X st t) : PS X st (tMid t) := by
  intro pins s σ H De I ⟨N, q, hN⟩
  refine thn (h pins s σ H { De with nx := N } I q) fun f s' q => ?_
  cases f with
  | next => obtain ⟨σ', H', I', q⟩ := q; exact ⟨σ', H', I', hN _ _ q⟩
  | brk => exact q
  | cont => exact q
  | ret v => exact q
end TT
namespace K11
open PySem L2 TT TX
seal PE PA PT PS PSs
section
variable {P : Program} {w : World} {K : PySem.W.Frag} {mg : Str → Option Value} {base : Heap}
/-! ### law -/
def spLaw (K : PySem.W.Frag) : Sp := fun vs H Q _ => ∃ (a : Addr) (ns : List Int), vs = [.ref a] ∧ SqL K H a (ns.map V.int) ∧ ns.length ≤ 63 ∧ ∀ H', Q (.bl true) H'
theorem scLaw : FnScope ["_law_script", "_law_line", "_law_found", "_law_refused"] ["_law_script"] (defScope sLaw) := ⟨rfl, rfl, rfl, by decide +kernel, rfl, by decide +kernel, by decide +kernel⟩
theorem ok_law {CN CR CT : Addr} {f : Addr} {fd : FuncData} (F : Fun K "law" "law" sLaw f fd) (X : ExcTxt K mg CN CR CT) (F_asked : Ok1 P w K mg base 7 "_law_asked" ["_law_script"] (spAsked K)) (F_read : OkR P w K mg base 7 "read" ["line"] (spRead CR))
    (F_well : Ok1 P w K mg base 3 "_law_well" ["_law_line"] spWell) (F_tells : Ok1 P w K mg base 9 "_law_base_tells" ["_law_line"] spTells) (F_isrow : Ok1 P w K mg base 5 "_law_is_row" ["_law_found"] spIsRow) (F_lineof : Ok1 P w K mg base 5 "_law_line_of" ["_law_row"] spLineOf) :
    FnOk P w K mg base CX0 11 f fd ["_law_script"] (spLaw K) := by
  refine F.ok scLaw (fun vs H Q E h => ?_) (fun cdv A outer s H vs Q E hr h => ?_)
  · obtain ⟨a, ns, rfl, _⟩ := h
    rfl
  · obtain ⟨a, ns, rfl, hS, hlen, k⟩ := h
    have nd := scLaw.nd
    have big := line_big
    refine ⟨_, (pss_cons (ps_set (i := 1) nd rfl (Or.inl rfl) (pe_fn F_asked (hr.mono (by decide)) rfl (pa_cons (pv 0) pa_nil)))
      (pss_cons (ps_set (i := 2) nd rfl (Or.inl rfl) pe_non)
      (pss_cons (ps_set (i := 3) nd rfl (Or.inl rfl) pe_bl)
      (pss_cons (ps_mid (ps_try (C := CR) ⟨rfl, rfl, rfl⟩ (pb_set (i := 2) nd rfl (Or.inl rfl) F_read (hr.mono (by decide)) rfl (pa_cons (pv 1) pa_nil)) rfl X.mR
        (fun x oe => pss_one (ps_set (i := 3) nd rfl (Or.inl rfl) pe_bl))))
      (pss_cons (ps_if (pt_not (pt_val (pe_fn F_well (hr.mono (by decide)) rfl (pa_cons (pv 1) pa_nil))))
        (pss_one (ps_ret (pe_and (pv 3) (pe_one (pe_fn F_tells (hr.mono (by decide)) rfl (pa_cons (pv 1) pa_nil))))))
        pss_nil)
      (pss_one (ps_ret (pe_and (pe_not (pv 3)) (pe_and (pe_fn F_isrow (hr.mono (by decide)) rfl (pa_cons (pv 2) pa_nil)) (pe_one (pe_cmpR op_eq (pe_fn F_lineof (hr.mono (by decide)) rfl (pa_cons (pv 2) pa_nil)) (pv 1) (nomark _)))))))))))), ?_⟩
    refine ⟨_, rfl, a, ns, rfl, hS, hlen, fun H1 z s1 hz => ?_⟩
    have hz2 := hz.2
    refine ⟨fun σ' H' => ∃ (fv : V) (rb : Bool), σ' = [some (.ref a), some (.str z), some fv, some (.bl rb)] ∧ ((rb = true ∧ ¬ isLine z.cps.toList) ∨ (rb = false ∧ isLine z.cps.toList ∧ ∃ row, Rep H' fv (rowD row) ∧ goods row ∧ txts false row = z.cps.toList)), ?_, ?_⟩
    · exact ⟨_, rfl, z, rfl, hz.1, by omega, (fun hli G' H' r row x rr hg ht => ⟨r, false, rfl, .inr ⟨rfl, hli, row, rr.mono x.gh, hg, ht⟩⟩), (fun hli H' s' => ⟨X.eR, .non, true, rfl, .inl ⟨rfl, hli⟩⟩)⟩
    rintro σ' H2 ⟨fv, rb, rfl, hc⟩
    refine ⟨_, rfl, z, rfl, hz.1, by omega, fun b hb => ⟨_, rfl, ?_⟩⟩
    rcases hc with ⟨rfl, hli⟩ | ⟨rfl, hli, row, rr, hg, ht⟩
    · have hb0 : b = false := by
        cases b with
        | false => rfl
        | true => exact absurd (hb.mp rfl) hli
      subst hb0
      refine iteT ⟨_, rfl, _, rfl, iteT ?_⟩
      exact ⟨_, rfl, z, rfl, hz.1, by omega, hli, fun H' _ => k H'⟩
    · have hb0 : b = true := hb.mpr hli
      subst hb0
      have hkn := txts_pos false row hg
      have hzl : z.cps.toList.length = z.length := by simp [Str.length]
      rw [ht] at hkn
      refine iteF ⟨_, rfl, _, rfl, _, rfl, iteT ?_⟩
      refine ⟨_, rfl, H2, fv, row, rfl, Same.refl _, rr, by omega, fun H3 s3 => ⟨_, rfl, iteT ?_⟩⟩
      refine ⟨_, rfl, H3, fv, row, rfl, Same.refl _, rr.mono s3, hg, by omega, by rw [ht]; omega, fun H4 s4 => ⟨_, rfl, rfl, ?_⟩⟩
      rw [ht, decide_eq_true (by show V.str ⟨z.cps.toList.toArray⟩ = V.str z; rw [Array.toArray_toList])]
      exact k _
end
end K11
namespace TT
open PySem
theorem cls_some {K : PySem.W.Frag} {C : Addr} {bm : List Value} {i : String} (h : PySem.W.excIn K C bm i = true) : (PySem.W.clsIn K C).isSome = true := by
  unfold PySem.W.excIn at h
  unfold PySem.W.clsIn
  split at h
  · rename_i e
    rw [e]
    rfl
  · cases h
end TT
namespace K11
open PySem L2 TT
theorem all_mk {l : PySem.W.OpenLaw} {w : World} {K : PySem.W.Frag} {h : Heap} {mg : Str → Option Value} {fa f1 f2 f3 f4 f5 f6 f7 f8 f9 f10 f11 f12 f13 f14 f15 f16 : Addr} (X : K.In h) (G : h.Ns mainGlobals mg) (hfa : mg "law" = some (.ref fa))
    {od1 an1 od2 an2 od3 an3 od4 an4 od5 an5 od6 an6 od7 an7 od8 an8 od9 an9 od10 an10 od11 an11 od12 an12 od13 an13 od14 an14 od15 an15 od16 an16 : Option Addr} {sl1 sl2 sl3 sl4 sl5 sl6 sl7 sl8 sl9 sl10 sl11 sl12 sl13 sl14 sl15 sl16 : Array (Option Value)} {oc1 kV1 dc1 pm1 cd1 ct1 oc2 kV2 dc2 pm2 cd2 ct2 oc3 kV3 dc3 pm3 cd3 ct3 oc4 kV4 dc4 pm4 cd4 ct4 oc5 kV5 dc5 pm5 cd5 ct5 oc6 kV6 dc6 pm6 cd6 ct6 oc7 kV7 dc7 pm7 cd7 ct7 oc8 kV8 dc8 pm8 cd8 ct8 oc9 kV9 dc9 pm9 cd9 ct9 oc10 kV10 dc10 pm10 cd10 ct10 oc11 kV11 dc11 pm11 cd11 ct11 oc12 kV12 dc12 pm12 cd12 ct12 oc13 kV13 dc13 pm13 cd13 ct13 oc14 kV14 dc14 pm14 cd14 ct14 oc15 kV15 dc15 pm15 cd15 ct15 oc16 kV16 dc16 pm16 cd16 ct16 : Value}
    (a1 : PySem.W.nsIn K mainGlobals "mark_of" = some (some (.ref f1))) (l1 : K.lookup f1 = some ⟨oc1, od1, .func (PySem.W.fnOf "mark_of" "mark_of" (defArgs sMark) (defBody sMark) (defScope sMark) .none kV1 dc1 pm1 an1 cd1 ct1), sl1⟩) (c1 : PySem.W.codeIn K cd1 "mark_of" = true) (k1 : PySem.W.keepIn K (.ref f1) = true)
    (a2 : PySem.W.nsIn K mainGlobals "knot" = some (some (.ref f2))) (l2 : K.lookup f2 = some ⟨oc2, od2, .func (PySem.W.fnOf "knot" "knot" (defArgs sKnot) (defBody sKnot) (defScope sKnot) .none kV2 dc2 pm2 an2 cd2 ct2), sl2⟩) (c2 : PySem.W.codeIn K cd2 "knot" = true) (k2 : PySem.W.keepIn K (.ref f2) = true)
    (a3 : PySem.W.nsIn K mainGlobals "neighbours_fit" = some (some (.ref f3))) (l3 : K.lookup f3 = some ⟨oc3, od3, .func (PySem.W.fnOf "neighbours_fit" "neighbours_fit" (defArgs sNbr) (defBody sNbr) (defScope sNbr) .none kV3 dc3 pm3 an3 cd3 ct3), sl3⟩) (c3 : PySem.W.codeIn K cd3 "neighbours_fit" = true) (k3 : PySem.W.keepIn K (.ref f3) = true)
    (a4 : PySem.W.nsIn K mainGlobals "brackets_fit" = some (some (.ref f4))) (l4 : K.lookup f4 = some ⟨oc4, od4, .func (PySem.W.fnOf "brackets_fit" "brackets_fit" (defArgs sBrk) (defBody sBrk) (defScope sBrk) .none kV4 dc4 pm4 an4 cd4 ct4), sl4⟩) (c4 : PySem.W.codeIn K cd4 "brackets_fit" = true) (k4 : PySem.W.keepIn K (.ref f4) = true)
    (a5 : PySem.W.nsIn K mainGlobals "row_of" = some (some (.ref f5))) (l5 : K.lookup f5 = some ⟨oc5, od5, .func (PySem.W.fnOf "row_of" "row_of" (defArgs sRowOf) (defBody sRowOf) (defScope sRowOf) .none kV5 dc5 pm5 an5 cd5 ct5), sl5⟩) (c5 : PySem.W.codeIn K cd5 "row_of" = true) (k5 : PySem.W.keepIn K (.ref f5) = true)
    (a6 : PySem.W.nsIn K mainGlobals "read" = some (some (.ref f6))) (l6 : K.lookup f6 = some ⟨oc6, od6, .func (PySem.W.fnOf "read" "read" (defArgs sRead) (defBody sRead) (defScope sRead) .none kV6 dc6 pm6 an6 cd6 ct6), sl6⟩) (c6 : PySem.W.codeIn K cd6 "read" = true) (k6 : PySem.W.keepIn K (.ref f6) = true)
    (a7 : PySem.W.nsIn K mainGlobals "_law_at" = some (some (.ref f7))) (l7 : K.lookup f7 = some ⟨oc7, od7, .func (PySem.W.fnOf "_law_at" "_law_at" (defArgs sLawAt) (defBody sLawAt) (defScope sLawAt) .none kV7 dc7 pm7 an7 cd7 ct7), sl7⟩) (c7 : PySem.W.codeIn K cd7 "_law_at" = true) (k7 : PySem.W.keepIn K (.ref f7) = true)
    (a8 : PySem.W.nsIn K mainGlobals "_law_any_word" = some (some (.ref f8))) (l8 : K.lookup f8 = some ⟨oc8, od8, .func (PySem.W.fnOf "_law_any_word" "_law_any_word" (defArgs sWord) (defBody sWord) (defScope sWord) .none kV8 dc8 pm8 an8 cd8 ct8), sl8⟩) (c8 : PySem.W.codeIn K cd8 "_law_any_word" = true) (k8 : PySem.W.keepIn K (.ref f8) = true)
    (a9 : PySem.W.nsIn K mainGlobals "_law_drawn_row" = some (some (.ref f9))) (l9 : K.lookup f9 = some ⟨oc9, od9, .func (PySem.W.fnOf "_law_drawn_row" "_law_drawn_row" (defArgs sDrawn) (defBody sDrawn) (defScope sDrawn) .none kV9 dc9 pm9 an9 cd9 ct9), sl9⟩) (c9 : PySem.W.codeIn K cd9 "_law_drawn_row" = true) (k9 : PySem.W.keepIn K (.ref f9) = true)
    (a10 : PySem.W.nsIn K mainGlobals "_law_is_row" = some (some (.ref f10))) (l10 : K.lookup f10 = some ⟨oc10, od10, .func (PySem.W.fnOf "_law_is_row" "_law_is_row" (defArgs sIsRow) (defBody sIsRow) (defScope sIsRow) .none kV10 dc10 pm10 an10 cd10 ct10), sl10⟩) (c10 : PySem.W.codeIn K cd10 "_law_is_row" = true) (k10 : PySem.W.keepIn K (.ref f10) = true)
    (a11 : PySem.W.nsIn K mainGlobals "_law_line_of" = some (some (.ref f11))) (l11 : K.lookup f11 = some ⟨oc11, od11, .func (PySem.W.fnOf "_law_line_of" "_law_line_of" (defArgs sLineOf) (defBody sLineOf) (defScope sLineOf) .none kV11 dc11 pm11 an11 cd11 ct11), sl11⟩) (c11 : PySem.W.codeIn K cd11 "_law_line_of" = true) (k11 : PySem.W.keepIn K (.ref f11) = true)
    (a12 : PySem.W.nsIn K mainGlobals "_law_well" = some (some (.ref f12))) (l12 : K.lookup f12 = some ⟨oc12, od12, .func (PySem.W.fnOf "_law_well" "_law_well" (defArgs sWell) (defBody sWell) (defScope sWell) .none kV12 dc12 pm12 an12 cd12 ct12), sl12⟩) (c12 : PySem.W.codeIn K cd12 "_law_well" = true) (k12 : PySem.W.keepIn K (.ref f12) = true)
    (a13 : PySem.W.nsIn K mainGlobals "_law_room" = some (some (.ref f13))) (l13 : K.lookup f13 = some ⟨oc13, od13, .func (PySem.W.fnOf "_law_room" "_law_room" (defArgs sRoom) (defBody sRoom) (defScope sRoom) .none kV13 dc13 pm13 an13 cd13 ct13), sl13⟩) (c13 : PySem.W.codeIn K cd13 "_law_room" = true) (k13 : PySem.W.keepIn K (.ref f13) = true)
    (a14 : PySem.W.nsIn K mainGlobals "_law_asked" = some (some (.ref f14))) (l14 : K.lookup f14 = some ⟨oc14, od14, .func (PySem.W.fnOf "_law_asked" "_law_asked" (defArgs sAsked) (defBody sAsked) (defScope sAsked) .none kV14 dc14 pm14 an14 cd14 ct14), sl14⟩) (c14 : PySem.W.codeIn K cd14 "_law_asked" = true) (k14 : PySem.W.keepIn K (.ref f14) = true)
    (a15 : PySem.W.nsIn K mainGlobals "_law_base_tells" = some (some (.ref f15))) (l15 : K.lookup f15 = some ⟨oc15, od15, .func (PySem.W.fnOf "_law_base_tells" "_law_base_tells" (defArgs sTells) (defBody sTells) (defScope sTells) .none kV15 dc15 pm15 an15 cd15 ct15), sl15⟩) (c15 : PySem.W.codeIn K cd15 "_law_base_tells" = true) (k15 : PySem.W.keepIn K (.ref f15) = true)
    (a16 : PySem.W.nsIn K mainGlobals "law" = some (some (.ref f16))) (l16 : K.lookup f16 = some ⟨oc16, od16, .func (PySem.W.fnOf "law" "law" (defArgs sLaw) (defBody sLaw) (defScope sLaw) .none kV16 dc16 pm16 an16 cd16 ct16), sl16⟩) (c16 : PySem.W.codeIn K cd16 "law" = true) (k16 : PySem.W.keepIn K (.ref f16) = true)
    {CN CR CT NB : Addr} {tL u1 u2 u3 u4 u5 u6 u7 u8 : Tok} {odN : Option Addr} {nN : Nat} {slN : Array (Option Value)} (xN : PySem.W.nsIn K mainGlobals "NoStep" = some (some (.ref CN))) (xR : PySem.W.nsIn K mainGlobals "NoRow" = some (some (.ref CR))) (xT : PySem.W.nsIn K mainGlobals "TreeError" = some (some (.ref CT))) (xV : PySem.W.nsIn K mainGlobals "ValueError" = some none) (y1 : PySem.W.excIn K CR veMro "ValueError.__new__" = true) (y2 : PySem.W.findIn K (.ref CR) "__getattribute__" = some (some (.builtin "BaseException.__getattribute__"))) (y3 : PySem.W.findIn K (.ref CR) "__getattr__" = some none) (y4 : PySem.W.findIn K (.ref CR) "__class__" = some (some (.builtin "object.__class__"))) (y5 : PySem.W.mroIn K CR (.type "object") = some true) (y6 : PySem.W.mroIn K CR (.type "BaseException") = some true) (w1 : PySem.W.exmOne K (.ref CR) (.ref CR) = some true) (w2 : PySem.W.exmOne K (.ref CR) (.ref CT) = some true) (w3 : PySem.W.kitOne K (.ref CR) (.ref CN) = some false) (w4 : PySem.W.kitOne K (.ref CR) (.ref CR) = some true) (w5 : PySem.W.kitOne K (.ref CR) (.type "ValueError") = some true) (cL : PySem.W.nsIn K mainGlobals "LETTERS" = some (some (.str (Str.ofString "abcdefghijklmnopqrstuvwxyz") tL))) (cN : PySem.W.nsIn K mainGlobals "NEIGHBOURS" = some (some (.ref NB))) (cT : K.lookup NB = some ⟨.type "tuple", odN, .seq #[.str (Str.ofString "aa") u1, .str (Str.ofString "a(") u2, .str (Str.ofString "a)") u3, .str (Str.ofString "a ") u4, .str (Str.ofString "(a") u5, .str (Str.ofString "))") u6, .str (Str.ofString ") ") u7, .str (Str.ofString " a") u8] nN, slN⟩)
    (z_list : PySem.W.nsIn K mainGlobals "list" = some none) (z_tuple : PySem.W.nsIn K mainGlobals "tuple" = some none) (z_len : PySem.W.nsIn K mainGlobals "len" = some none) (z_range : PySem.W.nsIn K mainGlobals "range" = some none) (z_min : PySem.W.nsIn K mainGlobals "min" = some none) (z_abs : PySem.W.nsIn K mainGlobals "abs" = some none) (z_isinstance : PySem.W.nsIn K mainGlobals "isinstance" = some none) (z_str : PySem.W.nsIn K mainGlobals "str" = some none) (z_int : PySem.W.nsIn K mainGlobals "int" = some none) (z_reversed : PySem.W.nsIn K mainGlobals "reversed" = some none) :
    ∃ fd : FuncData, (∀ (s : Shared) (v : Value), BindsTo s fd ⟨[v], []⟩ [("_law_script", v)]) ∧ ∀ base : Heap, K.In base → base.Ns mainGlobals mg → FnOk l.prog w K mg base CX0 11 fa fd ["_law_script"] (spLaw K) := by
  have e := hfa.symm.trans (PySem.W.mg_of X G a16)
  cases e
  have T : Txt mg := ⟨PySem.W.mg_none_of X G z_list, PySem.W.mg_none_of X G z_tuple, PySem.W.mg_none_of X G z_len, PySem.W.mg_none_of X G z_range, PySem.W.mg_none_of X G z_min, PySem.W.mg_none_of X G z_abs, PySem.W.mg_none_of X G z_isinstance, PySem.W.mg_none_of X G z_str, PySem.W.mg_none_of X G z_int, PySem.W.mg_none_of X G z_reversed⟩
  have EX : ExcTxt K mg CN CR CT := ⟨y1, ⟨y2, y3, y4, y5, y6, cls_some y1⟩, PySem.W.mg_of X G xN, PySem.W.mg_of X G xR, PySem.W.mg_of X G xT, PySem.W.mg_none_of X G xV, w1, w2, w3, w4, w5⟩
  have C : Cst K mg tL NB := ⟨PySem.W.mg_of X G cL, PySem.W.mg_of X G cN, fun H => .inr ⟨_, _, _, cT, rfl, rfl, (by show 8 ≤ sizeLine; decide), .cons ⟨u1, rfl⟩ (.cons ⟨u2, rfl⟩ (.cons ⟨u3, rfl⟩ (.cons ⟨u4, rfl⟩ (.cons ⟨u5, rfl⟩ (.cons ⟨u6, rfl⟩ (.cons ⟨u7, rfl⟩ (.cons ⟨u8, rfl⟩ .nil)))))))⟩⟩
  have F1 := fun_mk (st := sMark) l1 c1 k1
  have F2 := fun_mk (st := sKnot) l2 c2 k2
  have F3 := fun_mk (st := sNbr) l3 c3 k3
  have F4 := fun_mk (st := sBrk) l4 c4 k4
  have F5 := fun_mk (st := sRowOf) l5 c5 k5
  have F6 := fun_mk (st := sRead) l6 c6 k6
  have F7 := fun_mk (st := sLawAt) l7 c7 k7
  have F8 := fun_mk (st := sWord) l8 c8 k8
  have F9 := fun_mk (st := sDrawn) l9 c9 k9
  have F10 := fun_mk (st := sIsRow) l10 c10 k10
  have F11 := fun_mk (st := sLineOf) l11 c11 k11
  have F12 := fun_mk (st := sWell) l12 c12 k12
  have F13 := fun_mk (st := sRoom) l13 c13 k13
  have F14 := fun_mk (st := sAsked) l14 c14 k14
  have F15 := fun_mk (st := sTells) l15 c15 k15
  have F16 := fun_mk (st := sLaw) l16 c16 k16
  have b1 := F1.binds (ps := ["tree"]) fun _ _ _ _ _ _ us hl => match us, hl with | [_], _ => rfl
  have b2 := F2.binds (ps := ["mark", "trees"]) fun _ _ _ _ _ _ us hl => match us, hl with | [_, _], _ => rfl
  have b3 := F3.binds (ps := ["line"]) fun _ _ _ _ _ _ us hl => match us, hl with | [_], _ => rfl
  have b4 := F4.binds (ps := ["line"]) fun _ _ _ _ _ _ us hl => match us, hl with | [_], _ => rfl
  have b5 := F5.binds (ps := ["line"]) fun _ _ _ _ _ _ us hl => match us, hl with | [_], _ => rfl
  have b6 := F6.binds (ps := ["line"]) fun _ _ _ _ _ _ us hl => match us, hl with | [_], _ => rfl
  have b7 := F7.binds (ps := ["_law_script", "_law_k"]) fun _ _ _ _ _ _ us hl => match us, hl with | [_, _], _ => rfl
  have b8 := F8.binds (ps := ["_law_cell"]) fun _ _ _ _ _ _ us hl => match us, hl with | [_], _ => rfl
  have b9 := F9.binds (ps := ["_law_cells"]) fun _ _ _ _ _ _ us hl => match us, hl with | [_], _ => rfl
  have b10 := F10.binds (ps := ["_law_found"]) fun _ _ _ _ _ _ us hl => match us, hl with | [_], _ => rfl
  have b11 := F11.binds (ps := ["_law_row"]) fun _ _ _ _ _ _ us hl => match us, hl with | [_], _ => rfl
  have b12 := F12.binds (ps := ["_law_line"]) fun _ _ _ _ _ _ us hl => match us, hl with | [_], _ => rfl
  have b13 := F13.binds (ps := ["_law_script", "_law_most", "_law_bound"]) fun _ _ _ _ _ _ us hl => match us, hl with | [_, _, _], _ => rfl
  have b14 := F14.binds (ps := ["_law_script"]) fun _ _ _ _ _ _ us hl => match us, hl with | [_], _ => rfl
  have b15 := F15.binds (ps := ["_law_line"]) fun _ _ _ _ _ _ us hl => match us, hl with | [_], _ => rfl
  refine ⟨PySem.W.fnOf "law" "law" (defArgs sLaw) (defBody sLaw) (defScope sLaw) .none kV16 dc16 pm16 an16 cd16 ct16, fun s v => .of_eq rfl, fun base _ _ => ?_⟩
  have O_mark_of : Ok1 l.prog w K mg base 3 "mark_of" ["tree"] spMark := ⟨_, _, ok_mark F1, PySem.W.mg_of X G a1, k1, b1⟩
  have O_knot : Ok1 l.prog w K mg base 3 "knot" ["mark", "trees"] spKnot := ⟨_, _, ok_knot F2 T, PySem.W.mg_of X G a2, k2, b2⟩
  have O_neighbours_fit : Ok1 l.prog w K mg base 3 "neighbours_fit" ["line"] spNbr := ⟨_, _, ok_nbr F3 C, PySem.W.mg_of X G a3, k3, b3⟩
  have O_brackets_fit : Ok1 l.prog w K mg base 3 "brackets_fit" ["line"] spBrk := ⟨_, _, ok_brk F4, PySem.W.mg_of X G a4, k4, b4⟩
  have O_row_of : TX.OkT l.prog w K mg base 5 "row_of" ["line"] spRowOf := ⟨_, _, ok_rowof F5 T O_mark_of O_knot, PySem.W.mg_of X G a5, k5, b5⟩
  have O_read : OkR l.prog w K mg base 7 "read" ["line"] (spRead CR) := ⟨_, _, ok_read F6 EX.ev EX.mR O_neighbours_fit O_brackets_fit O_row_of, PySem.W.mg_of X G a6, k6, b6⟩
  have O__law_at : Ok1 l.prog w K mg base 3 "_law_at" ["_law_script", "_law_k"] (spLawAt K) := ⟨_, _, ok_lawat F7 T, PySem.W.mg_of X G a7, k7, b7⟩
  have O__law_any_word : Ok1 l.prog w K mg base 3 "_law_any_word" ["_law_cell"] spWord := ⟨_, _, ok_word F8 T, PySem.W.mg_of X G a8, k8, b8⟩
  have O__law_drawn_row : Ok1 l.prog w K mg base 5 "_law_drawn_row" ["_law_cells"] spDrawn := ⟨_, _, ok_drawn F9 T O__law_any_word, PySem.W.mg_of X G a9, k9, b9⟩
  have O__law_is_row : Ok1 l.prog w K mg base 5 "_law_is_row" ["_law_found"] spIsRow := ⟨_, _, ok_isrow F10 T, PySem.W.mg_of X G a10, k10, b10⟩
  have O__law_line_of : Ok1 l.prog w K mg base 5 "_law_line_of" ["_law_row"] spLineOf := ⟨_, _, ok_lineof F11 T, PySem.W.mg_of X G a11, k11, b11⟩
  have O__law_well : Ok1 l.prog w K mg base 3 "_law_well" ["_law_line"] spWell := ⟨_, _, ok_well F12 T, PySem.W.mg_of X G a12, k12, b12⟩
  have O__law_room : Ok1 l.prog w K mg base 3 "_law_room" ["_law_script", "_law_most", "_law_bound"] (spRoom K) := ⟨_, _, ok_room F13 T, PySem.W.mg_of X G a13, k13, b13⟩
  have O__law_asked : Ok1 l.prog w K mg base 7 "_law_asked" ["_law_script"] (spAsked K) := ⟨_, _, ok_asked F14 T O__law_at O__law_room O__law_drawn_row O__law_line_of, PySem.W.mg_of X G a14, k14, b14⟩
  have O__law_base_tells : Ok1 l.prog w K mg base 9 "_law_base_tells" ["_law_line"] spTells := ⟨_, _, ok_tells F15 T EX O_read, PySem.W.mg_of X G a15, k15, b15⟩
  exact ok_law F16 EX O__law_asked O_read O__law_well O__law_base_tells O__law_is_row O__law_line_of
theorem walk {l : PySem.W.OpenLaw} {q : Program} {loose : List Str} {XP : (Str → Option Value) → Heap → Prop} {YP : World → Heap → Prop} {d : DefRec} {K : Params → PySem.W.Frag} (hn : l.most = some 63) (hdf : d.params.defaults = [])
    (hY : ∀ (w : World) (h : Heap), YP w h → (K w.params).In h)
    (F : ∀ (w : World) (mg : Str → Option Value) (fa : Addr) (h : Heap), (K w.params).In h → h.Ns mainGlobals mg → mg d.name = some (.ref fa) →
      ∃ fd : FuncData, (∀ (s : Shared) (u : Value), BindsTo s fd ⟨[u], []⟩ [("_law_script", u)]) ∧ ∀ base : Heap, (K w.params).In base → base.Ns mainGlobals mg → FnOk l.prog w (K w.params) mg base CX0 11 fa fd ["_law_script"] (spLaw (K w.params))) :
    PySem.W.WalkO q loose XP YP l.row.toRowW d [] (fun f vs => PySem.call f vs) :=
  L2.walk_of (n := 63) (k := 11) (x := "_law_script") (CX := fun _ => CX0) (sp := fun w => spLaw (K w.params)) hn (by decide) hdf ⟨rfl, by decide, by decide, rfl⟩ hY F (fun _ _ a ns hl _ hS => ⟨a, ns, rfl, hS, hl, fun _ => rfl⟩) fun _ _ _ _ _ z => z
end K11
open PySem PySem.W PyProof.Rows
set_option maxRecDepth 100000 in
set_option maxHeartbeats 0 in
theorem PySem.Challenge.cw_treetrim_k11_lines_read_or_refused_holds : PySem.Challenge.rw_treetrim_k11_lines_read_or_refused.Holds := by
  w_on; o_law; k_head; (case hw => w_witness2)
  k_fill
  refine K11.walk (l := PySem.Challenge.rw_treetrim_k11_lines_read_or_refused) rfl rfl (fun w h Y => PySem.W.kIn_of Y) ?F
  case F =>
    intro w mg fa h KX G hmg
    refine' K11.all_mk KX G hmg ?a1 ?l1 ?c1 ?k1 ?a2 ?l2 ?c2 ?k2 ?a3 ?l3 ?c3 ?k3 ?a4 ?l4 ?c4 ?k4 ?a5 ?l5 ?c5 ?k5 ?a6 ?l6 ?c6 ?k6 ?a7 ?l7 ?c7 ?k7 ?a8 ?l8 ?c8 ?k8 ?a9 ?l9 ?c9 ?k9 ?a10 ?l10 ?c10 ?k10 ?a11 ?l11 ?c11 ?k11 ?a12 ?l12 ?c12 ?k12 ?a13 ?l13 ?c13 ?k13 ?a14 ?l14 ?c14 ?k14 ?a15 ?l15 ?c15 ?k15 ?a16 ?l16 ?c16 ?k16 ?xN ?xR ?xT ?xV ?y1 ?y2 ?y3 ?y4 ?y5 ?y6 ?w1 ?w2 ?w3 ?w4 ?w5 ?cL ?cN ?cT ?z_list ?z_tuple ?z_len ?z_range ?z_min ?z_abs ?z_isinstance ?z_str ?z_int ?z_reversed
    (case a1 => k_is)
    (case l1 => k_is)
    (case c1 => k_is)
    (case k1 => k_is)
    (case a2 => k_is)
    (case l2 => k_is)
    (case c2 => k_is)
    (case k2 => k_is)
    (case a3 => k_is)
    (case l3 => k_is)
    (case c3 => k_is)
    (case k3 => k_is)
    (case a4 => k_is)
    (case l4 => k_is)
    (case c4 => k_is)
    (case k4 => k_is)
    (case a5 => k_is)
    (case l5 => k_is)
    (case c5 => k_is)
    (case k5 => k_is)
    (case a6 => k_is)
    (case l6 => k_is)
    (case c6 => k_is)
    (case k6 => k_is)
    (case a7 => k_is)
    (case l7 => k_is)
    (case c7 => k_is)
    (case k7 => k_is)
    (case a8 => k_is)
    (case l8 => k_is)
    (case c8 => k_is)
    (case k8 => k_is)
    (case a9 => k_is)
    (case l9 => k_is)
    (case c9 => k_is)
    (case k9 => k_is)
    (case a10 => k_is)
    (case l10 => k_is)
    (case c10 => k_is)
    (case k10 => k_is)
    (case a11 => k_is)
    (case l11 => k_is)
    (case c11 => k_is)
    (case k11 => k_is)
    (case a12 => k_is)
    (case l12 => k_is)
    (case c12 => k_is)
    (case k12 => k_is)
    (case a13 => k_is)
    (case l13 => k_is)
    (case c13 => k_is)
    (case k13 => k_is)
    (case a14 => k_is)
    (case l14 => k_is)
    (case c14 => k_is)
    (case k14 => k_is)
    (case a15 => k_is)
    (case l15 => k_is)
    (case c15 => k_is)
    (case k15 => k_is)
    (case a16 => k_is)
    (case l16 => k_is)
    (case c16 => k_is)
    (case k16 => k_is)
    (case xN => k_is)
    (case xR => k_is)
    (case xT => k_is)
    (case xV => k_is)
    (case y1 => k_exc)
    (case y2 => k_is)
    (case y3 => k_is)
    (case y4 => k_is)
    (case y5 => k_is)
    (case y6 => k_is)
    (case w1 => kts_exm)
    (case w2 => kts_exm)
    (case w3 => kit_is)
    (case w4 => kit_is)
    (case w5 => kit_is)
    (case cL => k_is)
    (case cN => k_is)
    (case cT => k_is)
    (case z_list => k_is)
    (case z_tuple => k_is)
    (case z_len => k_is)
    (case z_range => k_is)
    (case z_min => k_is)
    (case z_abs => k_is)
    (case z_isinstance => k_is)
    (case z_str => k_is)
    (case z_int => k_is)
    (case z_reversed => k_is)
#print axioms PySem.Challenge.cw_treetrim_k11_lines_read_or_refused_holds
