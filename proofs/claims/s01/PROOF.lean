import PyProof.Rows.All
import Wide.All
import OpenK.AllK
import Wide.FinOn
import PyProof.EqAt
import PyProof.EqKinds
import PyProof.TupleCall
import KE.BitLaws
import Open.SpecLaws
import KE.OsHead
import KE.OsGo
import PySem.Builtin.Tuple.Common
import PyProof.TupleKey
import PySem.Challenge.RW_tornleaves_s01_answers
set_option Elab.async false
set_option linter.all false
set_option maxRecDepth 100000
set_option Elab.async false
set_option linter.all false
set_option maxRecDepth 100000
/-! THE HAND LAYER, for ints, bools, texts, own classes, lists, tuples, dicts, comprehensions, walks over dicts, enumerate, zip, reversed, texts, calls, loops. Paste it whole ahead of your own text; what your proof does not reach may be deleted. -/
namespace L2
open PySem PySem.Spec PyProof.Rows

/-- a key: an int or a str -/
abbrev Key := Sum Int Str
def keyIs : Key → Value → Bool
  | .inl k, v => Value.isInt k v
  | .inr x, v => Value.isStrOf x v
def keyH (w : World) : Key → Int
  | .inl k => hashInt k
  | .inr x => hashStr w x
theorem keyIs_shape : ∀ {k : Key} {v : Value}, keyIs k v = true → (∃ i t, k = Sum.inl i ∧ v = Value.int i t) ∨ (∃ x t, k = Sum.inr x ∧ v = Value.str x t)
  | .inl i, v, h => by
    obtain ⟨t, e⟩ := Value.isInt_shape (k := i) (v := v) h
    exact .inl ⟨i, t, rfl, e⟩
  | .inr x, v, h => by
    obtain ⟨t, e⟩ := Value.isStrOf_shape (x := x) (v := v) h
    exact .inr ⟨x, t, rfl, e⟩
theorem keyIs_int (i : Int) (t : Tok) : keyIs (.inl i) (.int i t) = true := by simp [keyIs, Value.isInt]
theorem keyIs_str (x : Str) (t : Tok) : keyIs (.inr x) (.str x t) = true := by simp [keyIs, Value.isStrOf]
theorem key_ll (a b : Int) : decide ((Sum.inl a : Key) = Sum.inl b) = (a == b) := by
  by_cases e : a = b
  · subst e; simp
  · have h : ¬ (Sum.inl a : Key) = Sum.inl b := fun q => e (Sum.inl.inj q)
    rw [decide_eq_false h]
    exact (beq_eq_false_iff_ne.mpr e).symm
theorem key_rr (a b : Str) : decide ((Sum.inr a : Key) = Sum.inr b) = decide (a = b) := by
  by_cases e : a = b
  · subst e; simp
  · have h : ¬ (Sum.inr a : Key) = Sum.inr b := fun q => e (Sum.inr.inj q)
    rw [decide_eq_false h, decide_eq_false e]
theorem key_lr (a : Int) (b : Str) : decide ((Sum.inl a : Key) = Sum.inr b) = false := decide_eq_false (fun q => nomatch q)
theorem key_rl (a : Str) (b : Int) : decide ((Sum.inr a : Key) = Sum.inl b) = false := decide_eq_false (fun q => nomatch q)

def mixKind (prog : Program) (w : World) : PySem.KeyKind prog w Key where
  is := keyIs
  hash := keyH w
  inj := fun v a b ha hb => by
    rcases keyIs_shape ha with ⟨i, t, rfl, rfl⟩ | ⟨x, t, rfl, rfl⟩
    · rcases keyIs_shape hb with ⟨j, u, rfl, e⟩ | ⟨y, u, rfl, e⟩
      · injection e with e1 _; rw [e1]
      · exact nomatch e
    · rcases keyIs_shape hb with ⟨j, u, rfl, e⟩ | ⟨y, u, rfl, e⟩
      · exact nomatch e
      · injection e with e1 _; rw [e1]
  byValue := fun k v h => by
    rcases keyIs_shape h with ⟨i, t, rfl, rfl⟩ | ⟨x, t, rfl, rfl⟩ <;> rfl
  pyHash := fun hv h => by
    rcases keyIs_shape hv with ⟨i, t, rfl, rfl⟩ | ⟨x, t, rfl, rfl⟩
    · exact wpAny_pyHash_int h
    · exact wpAny_pyHash_str h
  eqBool := fun hu hv h => by
    rcases keyIs_shape hu with ⟨i, t, rfl, rfl⟩ | ⟨x, t, rfl, rfl⟩
    · rcases keyIs_shape hv with ⟨j, u, rfl, rfl⟩ | ⟨y, u, rfl, rfl⟩
      · rw [key_ll] at h; exact wpAny_eqBool_int h
      · rw [key_lr] at h; exact SeqAt.EqAt.int_str i t y u _ _ _ _ h
    · rcases keyIs_shape hv with ⟨j, u, rfl, rfl⟩ | ⟨y, u, rfl, rfl⟩
      · rw [key_rl] at h; exact SeqAt.EqAt.str_int x t j u _ _ _ _ h
      · rw [key_rr] at h; exact wpAny_eqBool_str h
  «strs» := fun k x t v h => by
    rcases keyIs_shape h with ⟨i, u, rfl, e⟩ | ⟨y, u, rfl, e⟩
    · exact nomatch e
    · injection e with e1 _
      subst e1
      cases v <;> rfl

theorem mixKind_int (prog : Program) (w : World) (i : Int) (t : Tok) : (mixKind prog w).is (.inl i) (.int i t) = true := keyIs_int i t
theorem mixKind_str (prog : Program) (w : World) (x : Str) (t : Tok) : (mixKind prog w).is (.inr x) (.str x t) = true := keyIs_str x t
end L2

namespace L2
open PySem PySem.Spec PyProof.Rows

/-- a value, without the heap -/
inductive V where
  | non | bl (b : Bool) | int (i : Int) | str (x : Str) | byt (b : Array UInt8) | flt (b : UInt64) | ref (a : Addr) | ty (n : String)
  deriving DecidableEq

def RelV : V → Value → Prop
  | .non, u => u = Value.none
  | .bl b, u => u = Value.bool b
  | .int i, u => ∃ t, u = Value.int i t
  | .str x, u => ∃ t, u = Value.str x t
  | .byt b, u => ∃ t, u = Value.bytes b t
  | .flt b, u => ∃ t, u = Value.float b t
  | .ref a, u => u = Value.ref a
  | .ty n, u => u = Value.type n

abbrev Vals : List V → List Value → Prop := Paired RelV
theorem Vals.length {xs : List V} {us : List Value} (r : Vals xs us) : xs.length = us.length := Paired.length r
theorem Vals.get : ∀ {xs : List V} {us : List Value} {i : Nat} {x : V}, Vals xs us → xs[i]? = some x → ∃ u, us[i]? = some u ∧ RelV x u
  | _, _, _, _, .nil, e => by simp at e
  | _, _, 0, _, .cons r _, e => by simp at e; subst e; exact ⟨_, rfl, r⟩
  | _, _, i + 1, x, .cons _ t, e => by
    obtain ⟨u, h1, h2⟩ := Vals.get (i := i) (x := x) t (by simpa using e)
    exact ⟨u, by simpa using h1, h2⟩
theorem Vals.append : ∀ {xs ys : List V} {us ws : List Value}, Vals xs us → Vals ys ws → Vals (xs ++ ys) (us ++ ws)
  | _, _, _, _, .nil, s => s
  | _, _, _, _, .cons r t, s => .cons r (Vals.append t s)
theorem Vals.take : ∀ {xs : List V} {us : List Value} (n : Nat), Vals xs us → Vals (xs.take n) (us.take n)
  | _, _, 0, _ => .nil
  | _, _, _ + 1, .nil => .nil
  | _, _, n + 1, .cons r t => .cons r (Vals.take n t)
theorem Vals.drop : ∀ {xs : List V} {us : List Value} (n : Nat), Vals xs us → Vals (xs.drop n) (us.drop n)
  | _, _, 0, r => r
  | _, _, _ + 1, .nil => .nil
  | _, _, n + 1, .cons _ t => Vals.drop n t

def RelO : Option V → Option Value → Prop
  | some v, some u => RelV v u
  | none, none => True
  | _, _ => False
def KV {κ : Type} : List (κ × V) → List (κ × Value) → Prop := Paired fun (p : κ × V) (q : κ × Value) => p.1 = q.1 ∧ RelV p.2 q.2

/-- a key of a dict (00_mix): an int or a text -/
def kV : Key → V
  | .inl i => .int i
  | .inr x => .str x

/-- what stands at a tracked address -/
inductive HO where
  /-- a list -/
  | lst (xs : List V)
  /-- a tuple (never changes) -/
  | tup (xs : List V)
  /-- a dict whose keys are ints and texts; one whose keys are tuples of ints and texts (the empty one is both) -/
  | dK (kvs : List (Key × V)) | dT (kvs : List (List Key × V))
  /-- a set of ints: its members, its size -/
  | set (S : Int → Bool) (n : Nat)
  /-- an instance of the class at C, its dict at dx, its attributes -/
  | ins (C dx : Addr) (fs : List (Str × V))
  /-- the dict of the instance at x -/
  | own (x : Addr)
  /-- the dict of an exception -/
  | xd (fs : List (Str × V))
  /-- a bound method, f of x -/
  | met (f x : Addr)
  /-- a range object lo, lo + 1, .. below hi -/
  | rng (lo hi : Int)
  /-- a thing that is known to the object (the script; a dict while a loop walks it): read, never written while it is so -/
  | frz (o : Obj) (u : HO)
  /-- a code object's table -/
  | tbl (ps : Array Value)
  /-- any other thing, by what is true of its one object (a def of one's own: SetO a S n := HO.ext fun h => ..) -/
  | ext (φ : Heap → Prop)

abbrev Hp := Addr → Option HO
def upd (H : Hp) (a : Addr) (o : HO) : Hp := fun b => if b = a then some o else H b
theorem upd_same {H : Hp} {a : Addr} {o : HO} : upd H a o a = some o := by unfold upd; rw [if_pos rfl]
theorem upd_ne {H : Hp} {a b : Addr} {o : HO} (h : b ≠ a) : upd H a o b = H b := by unfold upd; rw [if_neg h]
/-- two objects of different content stand apart -/
theorem ne_of {H : Hp} {a b : Addr} {o u : HO} (h : H a = some o) (h' : H b = some u) (d : o ≠ u) : a ≠ b := by
  intro e; subst e; rw [h] at h'; exact d (Option.some.inj h')
theorem ne_of_none {H : Hp} {a b : Addr} {o : HO} (h : H a = some o) (h' : H b = none) : a ≠ b := by
  intro e; subst e; rw [h] at h'; cases h'

section
variable (P : Program) (w : World)
def ObjOk (H : Hp) (h : Heap) (a : Addr) : HO → Prop
  | .lst xs => xs.length ≤ sizeLine ∧ ∃ (its : List Value) (n : Nat), Vals xs its ∧ h.get? a = some { cls := .type "list", data := .seq its.toArray n }
  | .tup xs => xs.length ≤ sizeLine ∧ ∃ its : List Value, Vals xs its ∧ IsTup h a its.toArray
  | .dK kvs => kvs.length ≤ sizeLine ∧ (a == sysModules) = false ∧ ∃ vs, KV kvs vs ∧ h.DictOf (mixKind P w) a vs
  | .dT kvs => kvs.length ≤ sizeLine ∧ (a == sysModules) = false ∧ ∃ xs : List (List Key × Addr × Value),
      Paired (fun (p : List Key × V) (q : List Key × Addr × Value) => p.1 = q.1 ∧ H q.2.1 = some (.tup (p.1.map kV)) ∧ RelV p.2 q.2.2) kvs xs ∧
      ∃ o es ep, h.get? a = some o ∧ o.ExactDict ∧ o.data = .dict es ep ∧ es.toList = xs.map (entryOfKey (tupleKind (mixKind P w))) ∧ (xs.map (·.1)).Nodup
  | .set S n => h.SetOf (intKind P w) a S n
  | .ins C dx fs => H dx = some (.own a) ∧ fs.length ≤ 1000 ∧ dx ≠ a ∧ h.get? a = some (PySem.W.instObj C dx) ∧
      ∃ mA, h.Ns1 dx mA ∧ (∀ f, RelO (fs.lookup f) (mA f)) ∧ PySem.Within mA (fs.map (·.1))
  | .own _ => ∃ o, h.get? a = some o
  | .xd fs => ∃ mA, h.Ns1 a mA ∧ ∀ f, RelO (fs.lookup f) (mA f)
  | .rng lo hi => ∃ t u v, h.get? a = some { cls := .type "range", data := .fields #[.int lo t, .int hi u, .int 1 v] }
  | .frz o u => h.get? a = some o ∧ ObjOk H h a u
  | .tbl ps => h.get? a = some { cls := .none, data := .fields ps }
  | .met f x => h.get? a = some (PySem.W.methodObj (.ref f) (.ref x))
  | .ext φ => φ h ∧ (∃ o, h.get? a = some o) ∧ ∀ h1 h2 : Heap, φ h1 → (∀ o, h1.get? a = some o → h2.get? a = some o) → φ h2
/-- the abstract heap is held -/
def HOk (H : Hp) (h : Heap) : Prop := ∀ a o, H a = some o → ObjOk P w H h a o
end

section
variable {P : Program} {w : World} {H H' : Hp} {h h' : Heap} {a : Addr} {o : HO}
theorem ObjOk.lt (x : ObjOk P w H h a o) : a < h.objs.size := by
  cases o with
  | lst xs => obtain ⟨_, _, _, _, e⟩ := x; exact Heap.lt_size e
  | tup xs => obtain ⟨_, _, _, p⟩ := x; exact p.lt
  | dK kvs => obtain ⟨_, _, _, _, o, _, _, e, _⟩ := x; exact Heap.lt_size e
  | dT kvs => obtain ⟨_, _, _, _, o, _, _, e, _⟩ := x; exact Heap.lt_size e
  | set S n => obtain ⟨o, _, _, _, e, _⟩ := x; exact Heap.lt_size e
  | ins C dx fs => obtain ⟨_, _, _, e, _⟩ := x; exact Heap.lt_size e
  | own y => obtain ⟨_, e⟩ := x; exact Heap.lt_size e
  | xd fs => obtain ⟨_, ⟨_, _, _, e, _⟩, _⟩ := x; exact Heap.lt_size e
  | rng lo hi => obtain ⟨_, _, _, e⟩ := x; exact Heap.lt_size e
  | frz ob u => obtain ⟨e, _⟩ := x; exact Heap.lt_size e
  | tbl ps => exact Heap.lt_size (show h.get? a = some _ from x)
  | met f y => exact Heap.lt_size (show h.get? a = some _ from x)
  | ext φ => obtain ⟨_, ⟨_, e⟩, _⟩ := x; exact Heap.lt_size e
theorem Paired.mapP {α β : Type} {F G : α → β → Prop} : ∀ {l₁ : List α} {l₂ : List β}, Paired F l₁ l₂ → (∀ a b, F a b → G a b) → Paired G l₁ l₂
  | _, _, .nil, _ => .nil
  | _, _, .cons r t, f => .cons (f _ _ r) (Paired.mapP t f)
/-- what an object's description leans on: its own object, its own dict, the tuples -/
theorem ObjOk.stay (x : ObjOk P w H h a o) (k : ∀ b u, (b = a ∨ H b = some (.own a)) → h.get? b = some u → h'.get? b = some u)
    (ho : ∀ b, H b = some (.own a) → H' b = some (.own a)) (ht : ∀ b xs, H b = some (.tup xs) → H' b = some (.tup xs)) : ObjOk P w H' h' a o := by
  induction o with
  | lst xs => obtain ⟨z, its, n, r, e⟩ := x; exact ⟨z, its, n, r, k _ _ (.inl rfl) e⟩
  | tup xs => obtain ⟨z, its, r, ob, e, c⟩ := x; exact ⟨z, its, r, ob, k _ _ (.inl rfl) e, c⟩
  | dK kvs => obtain ⟨z, y, vs, r, ob, es, ep, e, c⟩ := x; exact ⟨z, y, vs, r, ob, es, ep, k _ _ (.inl rfl) e, c⟩
  | dT kvs =>
    obtain ⟨z, y, xs, r, ob, es, ep, e, c⟩ := x
    exact ⟨z, y, xs, Paired.mapP r fun p q z => ⟨z.1, ht _ _ z.2.1, z.2.2⟩, ob, es, ep, k _ _ (.inl rfl) e, c⟩
  | set S n => obtain ⟨ob, es, ep, t, e, c⟩ := x; exact ⟨ob, es, ep, t, k _ _ (.inl rfl) e, c⟩
  | ins C dx fs =>
    obtain ⟨d, z, ne, e, mA, ⟨od, es, ep, e2, c⟩, r⟩ := x
    exact ⟨ho _ d, z, ne, k _ _ (.inl rfl) e, mA, ⟨od, es, ep, k _ _ (.inr d) e2, c⟩, r⟩
  | own y => obtain ⟨ob, e⟩ := x; exact ⟨ob, k _ _ (.inl rfl) e⟩
  | xd fs => obtain ⟨mA, ⟨od, es, ep, e, c⟩, r⟩ := x; exact ⟨mA, ⟨od, es, ep, k _ _ (.inl rfl) e, c⟩, r⟩
  | rng lo hi => obtain ⟨t, u, v, e⟩ := x; exact ⟨t, u, v, k _ _ (.inl rfl) e⟩
  | frz ob u ih => obtain ⟨e, q⟩ := x; exact ⟨k _ _ (.inl rfl) e, ih q⟩
  | tbl ps =>
    have e : h.get? a = some { cls := .none, data := .fields ps } := x
    show h'.get? a = some { cls := .none, data := .fields ps }
    exact k a _ (.inl rfl) e
  | met f y =>
    have e : h.get? a = some (PySem.W.methodObj (.ref f) (.ref y)) := x
    show h'.get? a = some (PySem.W.methodObj (.ref f) (.ref y))
    exact k a _ (.inl rfl) e
  | ext φ => obtain ⟨p, ⟨o, e⟩, st⟩ := x; exact ⟨st _ _ p fun o q => k _ _ (.inl rfl) q, ⟨o, k _ _ (.inl rfl) e⟩, st⟩
theorem HOk.lt (x : HOk P w H h) (e : H a = some o) : a < h.objs.size := (x a o e).lt
theorem HOk.fresh (x : HOk P w H h) (e : h.objs.size ≤ a) : H a = none := by
  cases q : H a with
  | none => rfl
  | some u => exact absurd (Nat.lt_of_lt_of_le (x.lt q) e) (Nat.lt_irrefl _)
/-- every object of the heap is kept -/
theorem HOk.kept (x : HOk P w H h) (k : ∀ b u, h.get? b = some u → h'.get? b = some u) : HOk P w H h' := fun a o e =>
  (x a o e).stay (fun b u _ q => k b u q) (fun _ q => q) fun _ _ q => q
/-- a new object is laid and tracked -/
theorem HOk.laid (x : HOk P w H h) (k : ∀ b u, h.get? b = some u → h'.get? b = some u) (hp : h.objs.size ≤ a) (new : ObjOk P w (upd H a o) h' a o) : HOk P w (upd H a o) h' := fun b u e => by
  have hn := x.fresh hp
  by_cases hb : b = a
  · subst hb; rw [upd_same] at e; cases e; exact new
  · rw [upd_ne hb] at e
    exact (x b u e).stay (fun c v _ q => k c v q) (fun c q => by rw [upd_ne (ne_of_none q hn)]; exact q) fun c xs q => by rw [upd_ne (ne_of_none q hn)]; exact q
end

/-- what may be read as u: it is u, or a known u -/
def Rd (H : Hp) (a : Addr) (u : HO) : Prop := H a = some u ∨ ∃ o, H a = some (.frz o u)
theorem Rd.ok {P : Program} {w : World} {H : Hp} {h : Heap} {a : Addr} {u : HO} (r : Rd H a u) (x : HOk P w H h) : ObjOk P w H h a u := by
  rcases r with r | ⟨o, r⟩
  · exact x a u r
  · obtain ⟨_, q⟩ := x a _ r
    exact q
/-- what may be written -/
def Mut : Option HO → Prop
  | some (.lst _) => True
  | some (.dK _) => True
  | some (.dT _) => True
  | some (.set _ _) => True
  | some (.ins _ _ _) => True
  | some (.ext _) => True
  | _ => False
section
variable {P : Program} {w : World} {H : Hp} {h h' : Heap} {x e : Addr} {o' : HO}
/-- the object at e is changed: x itself, or the dict of the instance x -/
theorem HOk.write (ok : HOk P w H h) (mu : Mut (H x)) (he : e = x ∨ H e = some (.own x)) (k : ∀ b u, b ≠ e → h.get? b = some u → h'.get? b = some u) (heo : ∃ u, h'.get? e = some u)
    (new : ObjOk P w (upd H x o') h' x o') : HOk P w (upd H x o') h' := fun b u q => by
  have nown : ∀ c y, H c = some (.own y) → c ≠ x := fun c y r z => by subst z; rw [r] at mu; exact mu
  have ntup : ∀ c xs, H c = some (.tup xs) → c ≠ x := fun c xs r z => by subst z; rw [r] at mu; exact mu
  by_cases hb : b = x
  · subst hb; rw [upd_same] at q; cases q; exact new
  · rw [upd_ne hb] at q
    by_cases hbe : b = e
    · have q' : H b = some (.own x) := by
        rcases he with z | z
        · exact absurd (hbe.trans z) hb
        · rw [hbe]; exact z
      rw [q] at q'; cases q'
      obtain ⟨v, hv⟩ := heo
      exact ⟨v, by rw [hbe]; exact hv⟩
    · refine (ok b u q).stay (fun c v hc r => k c v ?_ r) (fun c r => by rw [upd_ne (nown c b r)]; exact r) fun c xs r => by rw [upd_ne (ntup c xs r)]; exact r
      rcases hc with rfl | hc
      · exact hbe
      · rintro rfl
        rcases he with z | z
        · exact nown c b hc z
        · rw [hc] at z; cases z; exact hb rfl
end

/-! ### kept unless tracked; of the frames at fs (the callers') the slots may change (an exception that passes writes there); of the records at ex (iterators) nothing is said -/
structure Un (fs ex : List Addr) (H H' : Hp) (h h' : Heap) : Prop where
  keep : ∀ b o, h.get? b = some o → H b = none → b ∉ fs → b ∉ ex → h'.get? b = some o
  slot : ∀ b o, h.get? b = some o → H b = none → b ∈ fs → b ∉ ex → ∃ sl, h'.get? b = some { o with slots := sl }
  free : ∀ b o, h.get? b = some o → H b = none → b ∉ ex → H' b = none
  there : ∀ b o, h.get? b = some o → b ∉ ex → ∃ o', h'.get? b = some o'
  tups : ∀ b xs, H b = some (.tup xs) → H' b = some (.tup xs)
  frzs : ∀ b o u, H b = some (.frz o u) → H' b = some (.frz o u)
  tbls : ∀ b ps, H b = some (.tbl ps) → ∃ more, H' b = some (.tbl (ps ++ more))
section
variable {fs fs' ex ex' : List Addr} {H H1 H2 : Hp} {h h1 h2 h' : Heap} {a x e : Addr} {o : HO}
theorem Un.any (u : Un fs ex H H1 h h1) {b : Addr} {ob : Obj} (q : h.get? b = some ob) (n : H b = none) (hx : b ∉ ex) : ∃ sl, h1.get? b = some { ob with slots := sl } := by
  by_cases hb : b ∈ fs
  · exact u.slot b ob q n hb hx
  · exact ⟨ob.slots, u.keep b ob q n hb hx⟩
theorem Un.kept (k : ∀ b u, h.get? b = some u → h'.get? b = some u) : Un fs ex H H h h' :=
  ⟨fun b ob q _ _ _ => k b ob q, fun b ob q _ _ _ => ⟨ob.slots, k b ob q⟩, fun _ _ _ n _ => n, fun b ob q _ => ⟨ob, k b ob q⟩, fun _ _ q => q, fun _ _ _ q => q, fun _ ps q => ⟨#[], by rw [q]; simp⟩⟩
theorem Un.refl : Un fs ex H H h h := Un.kept fun _ _ q => q
theorem Un.laid (k : ∀ b u, h.get? b = some u → h'.get? b = some u) (hp : h.objs.size ≤ a) (hn : H a = none) : Un fs ex H (upd H a o) h h' where
  keep := fun b u q _ _ _ => k b u q
  slot := fun b u q _ _ _ => ⟨u.slots, k b u q⟩
  free := fun b u q n _ => by rw [upd_ne (Nat.ne_of_lt (Nat.lt_of_lt_of_le (Heap.lt_size q) hp))]; exact n
  there := fun b u q _ => ⟨u, k b u q⟩
  tups := fun b xs q => by rw [upd_ne (ne_of_none q hn)]; exact q
  frzs := fun b u xs q => by rw [upd_ne (ne_of_none q hn)]; exact q
  tbls := fun b ps q => ⟨#[], by rw [upd_ne (ne_of_none q hn), q]; simp⟩
theorem Un.write (mu : Mut (H x)) (he : e = x ∨ H e = some (.own x)) (k : ∀ b u, b ≠ e → h.get? b = some u → h'.get? b = some u) (heo : ∃ u, h'.get? e = some u) : Un fs ex H (upd H x o) h h' := by
  have hx : ∀ b, H b = none → b ≠ x := fun b n z => by subst z; rw [n] at mu; exact mu
  have hb : ∀ b, H b = none → b ≠ e := fun b n z => by
    subst z
    rcases he with r | r
    · exact hx b n r
    · rw [n] at r; cases r
  have hm : ∀ b u, H b = some u → ¬ Mut (some u) → b ≠ x := fun b u q nm z => by subst z; rw [q] at mu; exact nm mu
  refine ⟨fun b u q n _ _ => k b u (hb b n) q, fun b u q n _ _ => ⟨u.slots, k b u (hb b n) q⟩, fun b u q n _ => by rw [upd_ne (hx b n)]; exact n, fun b u q _ => ?_,
    fun b xs q => by rw [upd_ne (hm b _ q fun z => z)]; exact q, fun b u xs q => by rw [upd_ne (hm b _ q fun z => z)]; exact q, fun b ps q => ⟨#[], by rw [upd_ne (hm b _ q fun z => z), q]; simp⟩⟩
  by_cases hbe : b = e
  · subst hbe; exact heo
  · exact ⟨u, k b u hbe q⟩
end

/-! ### the heap without what is tracked -/
def trk (h : Heap) (H : Hp) : List Addr := (List.range h.objs.size).filter fun a => (H a).isSome
def hidT (h : Heap) (H : Hp) : Heap := PySem.W.hideAll h (trk h H)
theorem hidT_size (h : Heap) (H : Hp) : (hidT h H).objs.size = h.objs.size := PySem.W.hideAll_size _ _
theorem hidT_get {h : Heap} {H : Hp} {b : Addr} {o : Obj} (e : h.get? b = some o) (n : H b = none) : (hidT h H).get? b = some o :=
  PySem.W.hideAll_get _ e fun hm => by
    have q : (H b).isSome = true := (List.mem_filter.mp hm).2
    rw [n] at q; simp at q
theorem of_hidT {h : Heap} {H : Hp} {b : Addr} {o : Obj} (e : (hidT h H).get? b = some o) : h.get? b = some o ∧ H b = none := by
  have e' : h.get? b = some o := PySem.W.of_hideAll (trk h H) e
  refine ⟨e', ?_⟩
  cases q : H b with
  | none => rfl
  | some x =>
    have hm : b ∈ trk h H := List.mem_filter.mpr ⟨List.mem_range.mpr (Heap.lt_size e'), by simp [q]⟩
    have z : (hidT h H).get? b = none := PySem.W.hideAll_none (trk h H) hm
    rw [z] at e; cases e

/-! ### OpenK's ledger, filled with every new object but one -/
end L2

namespace L2
open PySem PySem.Spec PyProof.Rows

/-- the module's facts, over the base: the heap at the law's entry without what is tracked there -/
structure Mod (K : PySem.W.Frag) (mg : Str → Option Value) (base : Heap) : Prop where
  kin : K.In base
  glob : base.Ns mainGlobals mg
  blt : ∃ mb, base.Ns builtinsNs mb ∧ ∀ x : Str, x ≠ "__name__" → mb x = bootBuiltins x
  nolimit : base.NoLimit

/-- the context: a def's body (or a comprehension's block) running. base: fixed through the whole law; s₀, H₀: the entry; outer: the frames whose slots others may change (a def's callers); stack: all frames that run;
   ex: iterators that were made ahead of the entry and are walked here (a comprehension's); fn: the names whose cells were made at the entry (a def: all; a comprehension's block: its own); calm: not within an except suite; pn: pins that every state bears; xe: what is wanted of an exception that leaves the code -/
structure Cx where
  prog : Program
  w : World
  K : PySem.W.Frag
  mg : Str → Option Value
  base : Heap
  A : Around
  N : List Str
  s_0 : Shared
  H_0 : Hp
  env : Env
  outer : List Env
  stack : List Env
  ex : List Addr
  fn : Str → Bool
  calm : Bool
  pn : List (Addr × Obj)
  xe : Value → Shared → Prop
/-- the callers' frames -/
def frs (l : List Env) : List Addr := l.filterMap (·.frame)
abbrev Cx.fs (X : Cx) : List Addr := frs X.outer

def Vis (sc : Scope) (x : Str) : Prop := sc.names.lookup x = some .local ∨ sc.names.lookup x = some .cell ∨ sc.names.lookup x = some .free
def Loc (sc : Scope) (x : Str) : Prop := sc.names.lookup x = some .local ∨ sc.names.lookup x = some .cell
def Look (env : Env) (h : Heap) (m : Str → Option Value) (x : Str) (u : Value) : Prop :=
  (env.kindOf x = some .local ∧ m x = some u) ∨ ((env.kindOf x = some .cell ∨ env.kindOf x = some .free) ∧ ∃ c, env.cells.lookup x = some c ∧ h.IsCell c (some u))

structure Cx.Ok (X : Cx) : Prop where
  mod : Mod X.K X.mg X.base
  kind : X.env.scope.kind = .function
  glob : X.env.globals = mainGlobals
  blt : X.env.builtins = builtinsNs
  above : X.s_0.heap.objs.size ≤ X.env.locals
  inj : ∀ x y c, X.env.cells.lookup x = some c → X.env.cells.lookup y = some c → x = y
  has : ∀ x, (X.env.kindOf x = some .cell ∨ X.env.kindOf x = some .free) → ∃ c, X.env.cells.lookup x = some c
  cab : ∀ x c, X.fn x = true → X.env.cells.lookup x = some c → X.s_0.heap.objs.size ≤ c
  hd : X.calm = true → X.A.handled = none
  frames : X.A.frames = some X.stack
  stk : X.stack = X.outer ∨ (X.stack = X.env :: X.outer ∧ X.env.frame = some X.env.locals)
  exf : ∀ b ∈ X.ex, b ≠ X.env.locals ∧ ∀ x c, X.env.cells.lookup x = some c → c ≠ b
  bs : ∀ b o, X.base.get? b = some o → X.s_0.heap.get? b = some o ∧ X.H_0 b = none
  bsz : X.base.objs.size ≤ X.s_0.heap.objs.size
  noex : ∀ b o, X.base.get? b = some o → b ∉ X.ex
  exfs : ∀ b ∈ X.ex, b ∉ X.fs
  funs : X.s_0.heap.FunFrames X.base X.outer
  frf : ∀ b ∈ X.fs, X.H_0 b = none

structure Inv (X : Cx) (pins : List (Addr × Obj)) (σ : List (Option V)) (H : Hp) (s : Shared) : Prop where
  ok : X.Ok
  os : s.os = X.s_0.os
  bare : AllBare s.gens
  base : Un X.fs X.ex X.H_0 H X.s_0.heap s.heap
  loc : ∃ m, s.heap.Ns X.env.locals m ∧ ∀ (i : Nat) (x : Str) (v : V), X.N[i]? = some x → σ[i]? = some (some v) → Vis X.env.scope x → ∃ u, RelV v u ∧ Look X.env s.heap m x u
  cell : ∀ x c, X.env.cells.lookup x = some c → ∃ v, s.heap.IsCell c v
  free : H X.env.locals = none
  freeC : ∀ x c, X.env.cells.lookup x = some c → H c = none
  pin : ∀ p ∈ X.pn ++ pins, s.heap.get? p.1 = some p.2 ∧ H p.1 = none ∧ p.1 ≠ X.env.locals ∧ p.1 ∉ X.fs ∧ ∀ v, p.2.data ≠ .cell v
  hok : HOk X.prog X.w H s.heap
  len : σ.length = X.N.length

section
variable {X : Cx} {pins : List (Addr × Obj)} {σ : List (Option V)} {H H' : Hp} {s : Shared} {h' : Heap}

theorem Cx.Ok.nofr (ok : X.Ok) {b : Addr} {o : Obj} (e : X.base.get? b = some o) : b ∉ X.fs := fun hb => by
  have := (ok.funs.mem hb).1
  rw [e] at this; cases this
theorem Inv.bs (I : Inv X pins σ H s) : ∀ b o, X.base.get? b = some o → s.heap.get? b = some o ∧ H b = none := fun b o e =>
  ⟨I.base.keep b o (I.ok.bs b o e).1 (I.ok.bs b o e).2 (I.ok.nofr e) (I.ok.noex b o e), I.base.free b o (I.ok.bs b o e).1 (I.ok.bs b o e).2 (I.ok.noex b o e)⟩
theorem Inv.bk (I : Inv X pins σ H s) : ∀ b o, X.base.get? b = some o → s.heap.get? b = some o := fun b o e => (I.bs b o e).1
theorem Inv.mod (I : Inv X pins σ H s) : Mod X.K X.mg X.base := I.ok.mod
theorem Inv.kIn (I : Inv X pins σ H s) : X.K.In s.heap := I.ok.mod.kin.keeps I.bk
theorem Inv.lt (I : Inv X pins σ H s) : X.env.locals < s.heap.objs.size := let ⟨_, hn, _⟩ := I.loc; hn.lt
theorem Inv.sz (I : Inv X pins σ H s) : X.s_0.heap.objs.size ≤ s.heap.objs.size := Nat.le_trans I.ok.above (Nat.le_of_lt I.lt)
theorem Inv.nofs (I : Inv X pins σ H s) {a : Addr} (h : s.heap.objs.size ≤ a) : a ∉ X.fs := fun hb => by
  obtain ⟨_, o, ho, _⟩ := I.ok.funs.mem hb
  exact absurd (Nat.lt_of_lt_of_le (Heap.lt_size ho) (Nat.le_trans I.sz h)) (Nat.lt_irrefl _)
theorem Inv.cne (I : Inv X pins σ H s) : ∀ x c, X.env.cells.lookup x = some c → c ≠ X.env.locals := fun x c e z => by
  obtain ⟨v, o, ho, hd⟩ := I.cell x c e
  obtain ⟨m, ⟨o', es, ep, ho', hd', _⟩, _⟩ := I.loc
  rw [z, ho'] at ho; cases ho; rw [hd'] at hd; cases hd
theorem Inv.funs (I : Inv X pins σ H s) : s.heap.FunFrames X.base X.outer := by
  have all : ∀ (l : List Env), (∀ b ∈ frs l, b ∈ X.fs) → X.s_0.heap.FunFrames X.base l → s.heap.FunFrames X.base l := by
    intro l
    induction l with
    | nil => intro _ _; trivial
    | cons env r ih =>
      intro hs hl
      obtain ⟨hk, ⟨L, o, hf, hn, ho, hd⟩, hr⟩ := hl
      have hL : L ∈ X.fs := hs L (by unfold frs; rw [List.filterMap_cons, hf]; exact List.mem_cons_self)
      obtain ⟨sl, e⟩ := I.base.slot L o ho (I.ok.frf L hL) hL fun z => I.ok.exfs L z hL
      exact ⟨hk, ⟨L, _, hf, hn, e, hd⟩, ih (fun b hb => hs b (by unfold frs; rw [List.filterMap_cons, hf]; exact List.mem_cons_of_mem _ hb)) hr⟩
  exact all X.outer (fun _ hb => hb) I.ok.funs

/-- the frames that run, for a call -/
theorem Inv.stack (I : Inv X pins σ H s) : s.heap.FunFrames X.base X.stack := by
  rcases I.ok.stk with e | ⟨e, hf⟩
  · rw [e]; exact I.funs
  · rw [e]
    obtain ⟨m, hn, _⟩ := I.loc
    refine .cons (by rw [I.ok.kind]; decide) hf hn ?_ I.funs
    exact Heap.get?_none_of_le (Nat.le_trans I.ok.bsz I.ok.above)
theorem Inv.stkSub (I : Inv X pins σ H s) : ∀ b ∈ frs X.stack, b ∈ X.env.locals :: X.fs := fun b hb => by
  rcases I.ok.stk with e | ⟨e, hf⟩
  · rw [e] at hb; exact List.mem_cons_of_mem _ hb
  · rw [e] at hb
    unfold frs at hb
    rw [List.filterMap_cons, hf] at hb
    exact hb
theorem Inv.stkFree (I : Inv X pins σ H s) : ∀ b ∈ frs X.stack, H b = none := fun b hb => by
  rcases List.mem_cons.mp (I.stkSub b hb) with e | hb
  · rw [e]; exact I.free
  · obtain ⟨_, o, ho, _⟩ := I.ok.funs.mem hb
    exact I.base.free b o ho (I.ok.frf b hb) fun z => I.ok.exfs b z hb

/-- THE STEP: the untracked objects but the frame and the records at ch are kept (the callers' frames up to slots), the frame's map is kept, the new abstract heap is held -/
theorem Inv.step {g' : Array GenState} {t' : Nat} {d' : Drawn} {ch : List Addr} (I : Inv X pins σ H s)
    (hch : ∀ b ∈ ch, (b ∈ X.ex ∨ X.s_0.heap.objs.size ≤ b) ∧ b ≠ X.env.locals ∧ (∀ x c, X.env.cells.lookup x = some c → c ≠ b) ∧ ∀ p ∈ X.pn ++ pins, p.1 ≠ b)
    (keep : ∀ b o, b ≠ X.env.locals → b ∉ X.fs → b ∉ ch → s.heap.get? b = some o → H b = none → h'.get? b = some o)
    (slot : ∀ b o, b ≠ X.env.locals → b ∈ X.fs → b ∉ ch → s.heap.get? b = some o → H b = none → ∃ sl, h'.get? b = some { o with slots := sl }) (free : ∀ b o, b ∉ ch → s.heap.get? b = some o → H b = none → H' b = none)
    (there : ∀ b o, b ∉ ch → s.heap.get? b = some o → ∃ o', h'.get? b = some o')
    (tups : ∀ b xs, H b = some (.tup xs) → H' b = some (.tup xs)) (frzs : ∀ b o u, H b = some (.frz o u) → H' b = some (.frz o u)) (tbls : ∀ b ps, H b = some (.tbl ps) → ∃ more, H' b = some (.tbl (ps ++ more)))
    (ns : ∀ m, s.heap.Ns X.env.locals m → h'.Ns X.env.locals m) (hok : HOk X.prog X.w H' h') (hg : AllBare g') :
    Inv X pins σ H' { s with heap := h', gens := g', drawn := d', toks := t' } := by
  have neL : ∀ b o, X.s_0.heap.get? b = some o → b ≠ X.env.locals := fun b o e => Nat.ne_of_lt (Nat.lt_of_lt_of_le (Heap.lt_size e) I.ok.above)
  have neC : ∀ b o, X.s_0.heap.get? b = some o → b ∉ X.ex → b ∉ ch := fun b o e hx hb => by
    rcases (hch b hb).1 with z | z
    · exact hx z
    · exact absurd (Nat.lt_of_lt_of_le (Heap.lt_size e) z) (Nat.lt_irrefl _)
  have cellK : ∀ x c, X.env.cells.lookup x = some c → ∀ v, s.heap.IsCell c v → h'.IsCell c v := fun x c e v ⟨o, ho, hd⟩ => by
    have nch : c ∉ ch := fun z => (hch c z).2.2.1 x c e rfl
    by_cases hc : c ∈ X.fs
    · obtain ⟨sl, q⟩ := slot c o (I.cne x c e) hc nch ho (I.freeC x c e)
      exact ⟨_, q, hd⟩
    · exact ⟨o, keep c o (I.cne x c e) hc nch ho (I.freeC x c e), hd⟩
  refine ⟨I.ok, I.os, hg, ⟨fun b o e n hb hx => ?_, fun b o e n hb hx => ?_, fun b o e n hx => ?_, fun b o e hx => ?_, fun b xs e => tups b xs (I.base.tups b xs e), fun b o xs e => frzs b o xs (I.base.frzs b o xs e), fun b ps e => ?_⟩, ?_, fun x c e => ?_, ?_, fun x c e => ?_, fun p hp => ?_, hok, I.len⟩
  · exact keep b o (neL b o e) hb (neC b o e hx) (I.base.keep b o e n hb hx) (I.base.free b o e n hx)
  · obtain ⟨sl, e1⟩ := I.base.slot b o e n hb hx
    obtain ⟨sl', e2⟩ := slot b _ (neL b o e) hb (neC b o e hx) e1 (I.base.free b o e n hx)
    exact ⟨sl', e2⟩
  · obtain ⟨o', e1⟩ := I.base.there b o e hx
    exact free b o' (neC b o e hx) e1 (I.base.free b o e n hx)
  · obtain ⟨o', e1⟩ := I.base.there b o e hx
    exact there b o' (neC b o e hx) e1
  · obtain ⟨m1, e1⟩ := I.base.tbls b ps e
    obtain ⟨m2, e2⟩ := tbls b _ e1
    exact ⟨m1 ++ m2, by rw [e2, Array.append_assoc]⟩
  · obtain ⟨m, hn, hl⟩ := I.loc
    refine ⟨m, ns m hn, fun i x v e1 e2 e3 => ?_⟩
    obtain ⟨u, r, l⟩ := hl i x v e1 e2 e3
    refine ⟨u, r, ?_⟩
    rcases l with l | ⟨k, c, e, z⟩
    · exact .inl l
    · exact .inr ⟨k, c, e, cellK x c e _ z⟩
  · obtain ⟨v, z⟩ := I.cell x c e
    exact ⟨v, cellK x c e v z⟩
  · obtain ⟨m, ⟨o, _, _, ho, _⟩, _⟩ := I.loc
    exact free _ o (fun z => (hch _ z).2.1 rfl) ho I.free
  · obtain ⟨v, o, ho, hd⟩ := I.cell x c e
    exact free c o (fun z => (hch c z).2.2.1 x c e rfl) ho (I.freeC x c e)
  · obtain ⟨e, n, ne, nf, d⟩ := I.pin p hp
    have nch : p.1 ∉ ch := fun z => (hch p.1 z).2.2.2 p hp rfl
    exact ⟨keep p.1 p.2 ne nf nch e n, free p.1 p.2 nch e n, ne, nf, d⟩
/-- .. where the frame's own object is kept too -/
theorem Inv.un {t' : Nat} (I : Inv X pins σ H s) (u : Un X.fs [] H H' s.heap h') (hok : HOk X.prog X.w H' h') : Inv X pins σ H' { s with heap := h', toks := t' } := by
  obtain ⟨m, ⟨o, es, ep, ho, r⟩, _⟩ := id I.loc
  obtain ⟨sl, hL⟩ := u.any ho I.free (by simp)
  exact I.step (g' := s.gens) (d' := s.drawn) (ch := []) (fun _ z => nomatch z) (fun b o _ hb _ e n => u.keep b o e n hb (by simp)) (fun b o _ hb _ e n => u.slot b o e n hb (by simp)) (fun b o _ e n => u.free b o e n (by simp)) (fun b o _ e => u.there b o e (by simp)) u.tups u.frzs u.tbls (fun m' hm => by
    obtain ⟨o', es', ep', ho', r'⟩ := hm
    rw [ho] at ho'; cases ho'
    exact ⟨_, es', ep', hL, r'⟩) hok I.bare
/-- behind a call (or a comprehension's block): the slots of this frame may have changed too, the records at ch may have turned -/
theorem Inv.call {g' : Array GenState} {t' : Nat} {d' : Drawn} {ch : List Addr} (I : Inv X pins σ H s) (u : Un (frs X.stack) ch H H' s.heap h') (hok : HOk X.prog X.w H' h') (hg : AllBare g')
    (hch : ∀ b ∈ ch, (b ∈ X.ex ∨ X.s_0.heap.objs.size ≤ b) ∧ b ≠ X.env.locals ∧ (∀ x c, X.env.cells.lookup x = some c → c ≠ b) ∧ ∀ p ∈ X.pn ++ pins, p.1 ≠ b) :
    Inv X pins σ H' { s with heap := h', gens := g', drawn := d', toks := t' } := by
  obtain ⟨m, ⟨o, es, ep, ho, r⟩, _⟩ := id I.loc
  obtain ⟨sl, hL⟩ := u.any ho I.free fun z => (hch _ z).2.1 rfl
  exact I.step (ch := ch) hch (fun b o hL hb hc e n => u.keep b o e n (fun z => (List.mem_cons.mp (I.stkSub b z)).elim hL hb) hc) (fun b o _ _ hc e n => u.any e n hc) (fun b o hc e n => u.free b o e n hc) (fun b o hc e => u.there b o e hc) u.tups u.frzs u.tbls (fun m' hm => by
    obtain ⟨o', es', ep', ho', r'⟩ := hm
    rw [ho] at ho'; cases ho'
    exact ⟨_, es', ep', hL, r'⟩) hok hg
/-- an untracked record of ours (an iterator) has turned -/
theorem Inv.turned {t' : Nat} {it : Addr} (I : Inv X pins σ H s) (k : ∀ b o, b ≠ it → s.heap.get? b = some o → h'.get? b = some o) (hn : H it = none) (hL : it ≠ X.env.locals)
    (h1 : it ∈ X.ex ∨ X.s_0.heap.objs.size ≤ it) (h2 : ∀ x c, X.env.cells.lookup x = some c → c ≠ it) (h3 : ∀ p ∈ X.pn ++ pins, p.1 ≠ it) : Inv X pins σ H { s with heap := h', toks := t' } := by
  have nit : ∀ b u, H b = some u → b ≠ it := fun b u e z => by rw [z, hn] at e; cases e
  refine I.step (g' := s.gens) (d' := s.drawn) (ch := [it]) (fun b hb => ?_) (fun b o _ _ hc e _ => k b o (fun z => hc (by simp [z])) e) (fun b o _ _ hc e _ => ⟨o.slots, k b o (fun z => hc (by simp [z])) e⟩) (fun _ _ _ _ n => n)
    (fun b o hc e => ⟨o, k b o (fun z => hc (by simp [z])) e⟩) (fun _ _ e => e) (fun _ _ _ e => e) (fun b ps e => ⟨#[], by rw [e]; simp⟩) (fun m hm => ?_) (fun b u e => ?_) I.bare
  · have e : b = it := by simpa using hb
    subst e
    exact ⟨h1, hL, h2, h3⟩
  · obtain ⟨o, es, ep, ho, r⟩ := hm
    exact ⟨o, es, ep, k _ o (Ne.symm hL) ho, r⟩
  · refine (I.hok b u e).stay (fun c v hc q => k c v ?_ q) (fun _ q => q) fun _ _ q => q
    rcases hc with z | z
    · rw [z]; exact nit b u e
    · exact nit c _ z
theorem Inv.tok (I : Inv X pins σ H s) (t : Nat) : Inv X pins σ H { s with toks := t } := I.un (h' := s.heap) (t' := t) Un.refl I.hok
/-- all objects kept -/
theorem Inv.kept {t' : Nat} (I : Inv X pins σ H s) (k : ∀ b u, s.heap.get? b = some u → h'.get? b = some u) : Inv X pins σ H { s with heap := h', toks := t' } := I.un (Un.kept k) (I.hok.kept k)
/-- a new object laid and tracked -/
theorem Inv.laid {a : Addr} {o : HO} {t' : Nat} (I : Inv X pins σ H s) (k : ∀ b u, s.heap.get? b = some u → h'.get? b = some u) (hp : s.heap.objs.size ≤ a) (new : ObjOk X.prog X.w (upd H a o) h' a o) :
    Inv X pins σ (upd H a o) { s with heap := h', toks := t' } := I.un (Un.laid k hp (I.hok.fresh hp)) (I.hok.laid k hp new)
/-- an object written -/
theorem Inv.write {x e : Addr} {o : HO} {t' : Nat} (I : Inv X pins σ H s) (mu : Mut (H x)) (he : e = x ∨ H e = some (.own x)) (k : ∀ b u, b ≠ e → s.heap.get? b = some u → h'.get? b = some u) (heo : ∃ u, h'.get? e = some u)
    (new : ObjOk X.prog X.w (upd H x o) h' x o) : Inv X pins σ (upd H x o) { s with heap := h', toks := t' } := I.un (Un.write mu he k heo) (I.hok.write mu he k heo new)
/-- forgetting slots, pins -/
theorem Inv.weak {σ' : List (Option V)} (I : Inv X pins σ H s) (hl : σ'.length = σ.length) (w : ∀ (i : Nat) v, σ'[i]? = some (some v) → σ[i]? = some (some v)) : Inv X pins σ' H s :=
  ⟨I.ok, I.os, I.bare, I.base, let ⟨m, hn, hl'⟩ := I.loc; ⟨m, hn, fun i x v e1 e2 e3 => hl' i x v e1 (w i v e2) e3⟩, I.cell, I.free, I.freeC, I.pin, I.hok, hl.trans I.len⟩
theorem Inv.pins_of {pins' : List (Addr × Obj)} (I : Inv X pins σ H s) (h : ∀ p ∈ pins', s.heap.get? p.1 = some p.2 ∧ H p.1 = none ∧ p.1 ≠ X.env.locals ∧ p.1 ∉ X.fs ∧ ∀ v, p.2.data ≠ .cell v) : Inv X pins' σ H s :=
  ⟨I.ok, I.os, I.bare, I.base, I.loc, I.cell, I.free, I.freeC, fun p hp => (List.mem_append.mp hp).elim (fun z => I.pin p (List.mem_append_left _ z)) (h p), I.hok, I.len⟩

theorem nodup_ix {N : List Str} (hN : N.Nodup) {i j : Nat} {x : Str} (a : N[i]? = some x) (b : N[j]? = some x) : i = j := by
  obtain ⟨h1, e1⟩ := List.getElem?_eq_some_iff.mp a
  obtain ⟨h2, e2⟩ := List.getElem?_eq_some_iff.mp b
  exact (List.getElem_inj hN).mp (e1.trans e2.symm)

/-- a name is stored; what changed -/
theorem store_ok2 {M : Model} {A : Around} {E : Value → Shared → Prop} {i : Nat} {x : Str} {v : V} {u : Value} {Q : Unit → Shared → Prop} (I : Inv X pins σ H s) (hN : X.N.Nodup) (hi : X.N[i]? = some x) (hx : Loc X.env.scope x) (r : RelV v u)
    (h : ∀ s', Inv X pins (σ.set i (some v)) H s' → (∃ a, Heap.SameBut a s.heap s'.heap ∧ (a = X.env.locals ∨ X.env.cells.lookup x = some a)) → Q () s') (hf : X.fn x = true ∨ X.env.scope.names.lookup x = some .local := by first | exact .inl rfl | exact .inr rfl | assumption) : wpAny M A (storeName X.env x u) Q E s := by
  obtain ⟨m, hn, hl⟩ := id I.loc
  have hcls : (X.env.scope.kind == .class || (X.env.scope.kind == .module && X.env.locals != X.env.globals)) = false := by rw [I.ok.kind]; rfl
  have hiσ : i < σ.length := by rw [I.len]; exact (List.getElem?_eq_some_iff.mp hi).1
  have cne := I.cne
  have tracked : ∀ {a : Addr} {h' : Heap}, (∃ o, s.heap.get? a = some o ∧ H a = none) → Heap.SameBut a s.heap h' → HOk X.prog X.w H h' := fun {a h'} ha hs b ob e => by
    obtain ⟨_, _, hfree⟩ := ha
    refine (I.hok b ob e).stay (fun c w' hc q => (hs.2 c ?_).trans q) (fun _ q => q) fun _ _ q => q
    rintro rfl
    rcases hc with rfl | hc
    · rw [hfree] at e; cases e
    · rw [hfree] at hc; cases hc
  rcases hx with hk | hk
  · refine wpAny_storeName_local hk hn (fun h' hn' hs => ?_) hcls
    obtain ⟨oL, _, _, hoL, _⟩ := id hn
    refine h _ ⟨I.ok, I.os, I.bare, ⟨fun b o e n hb hx => ?_, fun b o e n hb hx => ?_, I.base.free, fun b o e hx => ?_, I.base.tups, I.base.frzs, I.base.tbls⟩, ⟨_, hn', fun j y v' e1 e2 e3 => ?_⟩, fun y c e => ?_, I.free, I.freeC, fun p hp => ?_, tracked ⟨oL, hoL, I.free⟩ hs, by simpa using I.len⟩ ⟨_, hs, .inl rfl⟩
    · exact (hs.2 b (Nat.ne_of_lt (Nat.lt_of_lt_of_le (Heap.lt_size e) I.ok.above))).trans (I.base.keep b o e n hb hx)
    · obtain ⟨sl, e1⟩ := I.base.slot b o e n hb hx
      exact ⟨sl, (hs.2 b (Nat.ne_of_lt (Nat.lt_of_lt_of_le (Heap.lt_size e) I.ok.above))).trans e1⟩
    · obtain ⟨o', e1⟩ := I.base.there b o e hx
      exact ⟨o', (hs.2 b (Nat.ne_of_lt (Nat.lt_of_lt_of_le (Heap.lt_size e) I.ok.above))).trans e1⟩
    · by_cases hj : j = i
      · subst hj
        rw [hi] at e1; cases e1
        rw [List.getElem?_set_self hiσ] at e2
        cases e2
        exact ⟨u, r, .inl ⟨hk, by simp⟩⟩
      · rw [List.getElem?_set_ne (Ne.symm hj)] at e2
        obtain ⟨u', r', q⟩ := hl j y v' e1 e2 e3
        refine ⟨u', r', ?_⟩
        rcases q with ⟨k, e⟩ | ⟨k, c, e, z⟩
        · refine .inl ⟨k, ?_⟩
          have : y ≠ x := fun e => hj (nodup_ix hN e1 (e ▸ hi))
          simp [this, e]
        · exact .inr ⟨k, c, e, z.sameBut hs (cne y c e)⟩
    · obtain ⟨w', z⟩ := I.cell y c e
      exact ⟨w', z.sameBut hs (cne y c e)⟩
    · obtain ⟨e, n, ne, nf, d⟩ := I.pin p hp
      exact ⟨(hs.2 p.1 ne).trans e, n, ne, nf, d⟩
  · have hfn : X.fn x = true := by
      rcases hf with z | z
      · exact z
      · rw [z] at hk; cases hk
    obtain ⟨c, hc⟩ := I.ok.has x (.inl hk)
    obtain ⟨w', z⟩ := I.cell x c hc
    refine wpAny_storeName_cell I.ok.kind hk hc z (fun h' hc' hs => ?_)
    obtain ⟨oc, hoc, hocd⟩ := id z
    refine h { s with heap := h' } ⟨I.ok, I.os, I.bare, ⟨fun b o e n hb hx => ?_, fun b o e n hb hx => ?_, I.base.free, fun b o e hx => ?_, I.base.tups, I.base.frzs, I.base.tbls⟩, ⟨m, hn.sameBut hs (Ne.symm (cne x c hc)), fun j y v' e1 e2 e3 => ?_⟩, fun y c' e => ?_, I.free, I.freeC, fun p hp => ?_, tracked ⟨oc, hoc, I.freeC x c hc⟩ hs, by simpa using I.len⟩ ⟨c, hs, .inr hc⟩
    · exact (hs.2 b (Nat.ne_of_lt (Nat.lt_of_lt_of_le (Heap.lt_size e) (I.ok.cab x c hfn hc)))).trans (I.base.keep b o e n hb hx)
    · obtain ⟨sl, e1⟩ := I.base.slot b o e n hb hx
      exact ⟨sl, (hs.2 b (Nat.ne_of_lt (Nat.lt_of_lt_of_le (Heap.lt_size e) (I.ok.cab x c hfn hc)))).trans e1⟩
    · obtain ⟨o', e1⟩ := I.base.there b o e hx
      exact ⟨o', (hs.2 b (Nat.ne_of_lt (Nat.lt_of_lt_of_le (Heap.lt_size e) (I.ok.cab x c hfn hc)))).trans e1⟩
    · by_cases hj : j = i
      · subst hj
        rw [hi] at e1; cases e1
        rw [List.getElem?_set_self hiσ] at e2
        cases e2
        exact ⟨u, r, .inr ⟨.inl hk, c, hc, hc'⟩⟩
      · rw [List.getElem?_set_ne (Ne.symm hj)] at e2
        obtain ⟨u', r', q⟩ := hl j y v' e1 e2 e3
        refine ⟨u', r', ?_⟩
        rcases q with q | ⟨k, c', e, z'⟩
        · exact .inl q
        · refine .inr ⟨k, c', e, z'.sameBut hs ?_⟩
          rintro rfl
          exact hj (nodup_ix hN e1 (I.ok.inj _ _ _ e hc ▸ hi))
    · by_cases hcc : c' = c
      · subst hcc; exact ⟨_, hc'⟩
      · obtain ⟨w2, z2⟩ := I.cell y c' e
        exact ⟨w2, z2.sameBut hs hcc⟩
    · obtain ⟨e, n, ne, nf, d⟩ := I.pin p hp
      refine ⟨(hs.2 p.1 ?_).trans e, n, ne, nf, d⟩
      intro q
      rw [q, hoc] at e
      have q' : oc = p.2 := Option.some.inj e
      exact d w' (by rw [← q']; exact hocd)
theorem store_ok {M : Model} {A : Around} {E : Value → Shared → Prop} {i : Nat} {x : Str} {v : V} {u : Value} {Q : Unit → Shared → Prop} (I : Inv X pins σ H s) (hN : X.N.Nodup) (hi : X.N[i]? = some x) (hx : Loc X.env.scope x) (r : RelV v u)
    (h : ∀ s', Inv X pins (σ.set i (some v)) H s' → Q () s') (hf : X.fn x = true ∨ X.env.scope.names.lookup x = some .local := by first | exact .inl rfl | exact .inr rfl | assumption) : wpAny M A (storeName X.env x u) Q E s :=
  store_ok2 I hN hi hx r (fun s' I' _ => h s' I') hf
/-- behind a call or a block, the state as it is -/
theorem Inv.call' {s' : Shared} {ch : List Addr} (I : Inv X pins σ H s) (ho : s'.os = s.os) (u : Un (frs X.stack) ch H H' s.heap s'.heap) (hok : HOk X.prog X.w H' s'.heap) (hg : AllBare s'.gens)
    (hch : ∀ b ∈ ch, (b ∈ X.ex ∨ X.s_0.heap.objs.size ≤ b) ∧ b ≠ X.env.locals ∧ (∀ x c, X.env.cells.lookup x = some c → c ≠ b) ∧ ∀ p ∈ X.pn ++ pins, p.1 ≠ b) : Inv X pins σ H' s' := by
  obtain ⟨h', g', d', t', o'⟩ := s'
  have e : o' = s.os := ho
  subst e
  exact I.call (g' := g') (t' := t') (d' := d') u hok hg hch
end

/-! ### the judgements -/
/-- an exception: its class, its own dict's address (where it has one), the abstract heap behind it -/
abbrev XK := Value → Option Addr → Hp → Prop
abbrev St := List (Option V)
abbrev VK := V → Hp → Prop
/-- an expression's reading; a test's; an argument list's -/
abbrev TE := St → Hp → VK → Prop
abbrev TT := St → Hp → (Bool → Hp → Prop) → Prop
abbrev TA := St → Hp → (List V → Hp → Prop) → Prop
/-- what is wanted behind a statement -/
structure Ends where
  nx : St → Hp → Prop
  rt : VK
  bk : St → Hp → Prop := fun _ _ => False
  ct : St → Hp → Prop := fun _ _ => False
abbrev TS := Ends → St → Hp → Prop

def EP (X : Cx) (pins : List (Addr × Obj)) (σ : St) (Q : VK) (u : Value) (s' : Shared) : Prop := ∃ v H', Inv X pins σ H' s' ∧ RelV v u ∧ Q v H'
def TP (X : Cx) (pins : List (Addr × Obj)) (σ : St) (Q : Bool → Hp → Prop) (b : Bool) (s' : Shared) : Prop := ∃ H', Inv X pins σ H' s' ∧ Q b H'
def AP (X : Cx) (pins : List (Addr × Obj)) (σ : St) (Q : List V → Hp → Prop) (us : List Value) (s' : Shared) : Prop := ∃ vs H', Inv X pins σ H' s' ∧ Vals vs us ∧ Q vs H'
def SP (X : Cx) (pins : List (Addr × Obj)) (D : Ends) (f : Flow) (s' : Shared) : Prop :=
  match f with
  | .next => ∃ σ' H', Inv X pins σ' H' s' ∧ D.nx σ' H'
  | .brk => ∃ σ' H', Inv X pins σ' H' s' ∧ D.bk σ' H'
  | .cont => ∃ σ' H', Inv X pins σ' H' s' ∧ D.ct σ' H'
  | .ret u => ∃ v σ' H', Inv X pins σ' H' s' ∧ RelV v u ∧ D.rt v H'

def PE (X : Cx) (e : Expr) (t : TE) : Prop :=
  ∀ (pins : List (Addr × Obj)) (s : Shared) (σ : St) (H : Hp) (Q : VK), Inv X pins σ H s → t σ H Q → wpAny (model X.prog X.w) X.A (eval e X.env) (EP X pins σ Q) X.xe s
def PT (X : Cx) (e : Expr) (t : TT) : Prop :=
  ∀ (pins : List (Addr × Obj)) (s : Shared) (σ : St) (H : Hp) (Q : Bool → Hp → Prop), Inv X pins σ H s → t σ H Q → wpAny (model X.prog X.w) X.A (isTrue e X.env (eval e X.env)) (TP X pins σ Q) X.xe s
/-- a test whatever its 'whole' is (and, or) -/
def PW (X : Cx) (e : Expr) (t : TT) : Prop :=
  ∀ (whole : Sem Value) (pins : List (Addr × Obj)) (s : Shared) (σ : St) (H : Hp) (Q : Bool → Hp → Prop), Inv X pins σ H s → t σ H Q → wpAny (model X.prog X.w) X.A (isTrue e X.env whole) (TP X pins σ Q) X.xe s
theorem PW.pt {X : Cx} {e : Expr} {t : TT} (h : PW X e t) : PT X e t := h _
/-- an argument list (no star), from the left -/
def PA (X : Cx) (es : List Expr) (t : TA) : Prop :=
  ∀ (pos : Pos) (pins : List (Addr × Obj)) (s : Shared) (σ : St) (H : Hp) (Q : List V → Hp → Prop), Inv X pins σ H s → t σ H Q → wpAny (model X.prog X.w) X.A (spliced (backTo pos (starEach es X.env))) (AP X pins σ Q) X.xe s
def PS (X : Cx) (st : Stmt) (t : TS) : Prop :=
  ∀ (pins : List (Addr × Obj)) (s : Shared) (σ : St) (H : Hp) (D : Ends), Inv X pins σ H s → t D σ H → wpAny (model X.prog X.w) X.A (exec st X.env) (SP X pins D) X.xe s
def PSs (X : Cx) (st : List Stmt) (t : TS) : Prop :=
  ∀ (pins : List (Addr × Obj)) (s : Shared) (σ : St) (H : Hp) (D : Ends), Inv X pins σ H s → t D σ H → wpAny (model X.prog X.w) X.A (execs st X.env) (SP X pins D) X.xe s
/-- weaken the end -/
theorem thn {α : Type} {t : Sem α} {Q Q' : α → Shared → Prop} {M : Model} {A : Around} {E : Value → Shared → Prop} {s : Shared} (h : wpAny M A t Q E s) (hQ : ∀ a s, Q a s → Q' a s) : wpAny M A t Q' E s := wpAny_mono h hQ fun _ _ x => x
end L2

namespace L2
open PySem PySem.Spec PyProof.Rows
section
variable {X : Cx}

/-! ### names and constants -/
def tVar (i : Nat) : TE := fun σ H Q => ∃ v, σ[i]? = some (some v) ∧ Q v H
def tC (v : V) : TE := fun _ H Q => Q v H
theorem pe_var {i : Nat} {x : Str} {pos : Pos} (hN : X.N[i]? = some x) (hv : Vis X.env.scope x) (hd : (x == ("__debug__" : Str)) = false := by decide) (hcd : (x == ("__classdict__" : Str)) = false := by decide) : PE X (.Name x pos) (tVar i) := by
  intro pins s σ H Q I h
  obtain ⟨v, e, h⟩ := h
  obtain ⟨m, hn, hl⟩ := I.loc
  obtain ⟨u, r, l⟩ := hl i x v hN e hv
  have fin : EP X pins σ Q u s := ⟨v, H, I, r, h⟩
  rcases l with ⟨hk, hm⟩ | ⟨hk, c, hc, hcell⟩
  · exact wpAny_Name (wpAny_loadName_local I.ok.kind hk hn hm fin) hd
  · rcases hk with hk | hk
    · exact wpAny_Name (wpAny_loadName_cell I.ok.kind hk hc hcell fin) hd
    · exact wpAny_Name (wpAny_loadName_free I.ok.kind hk hc hcell fin hcd) hd
theorem pe_int {i j pos} : PE X (.Constant (.int i) j pos) (tC (.int i)) := fun _ _ _ H _ I h => wpAny_Constant_int ⟨.int i, H, I.tok _, ⟨_, rfl⟩, h⟩
theorem pe_bl {b j pos} : PE X (.Constant (.bool b) j pos) (tC (.bl b)) := fun _ _ _ H _ I h => Constant_bool ⟨.bl b, H, I, rfl, h⟩

/-- a global name of the def -/
def Gl (X : Cx) (x : Str) : Prop := X.env.kindOf x = some .globalImplicit
theorem ld_glob {E : Value → Shared → Prop} {pins : List (Addr × Obj)} {s : Shared} {σ : St} {H : Hp} {x : Str} {u : Value} {pos : Pos} {Q : Value → Shared → Prop} (I : Inv X pins σ H s) (hg : Gl X x) (hm : X.mg x = some u) (h : Q u s)
    (hd : (x == ("__debug__" : Str)) = false := by decide) : wpAny (model X.prog X.w) X.A (eval (.Name x pos) X.env) Q E s :=
  Calls.Name_function_global I.ok.kind hg (Calls.loadGlobal_global (by rw [I.ok.glob]; exact I.mod.glob.keeps I.bk) hm h) hd
theorem ld_blt {E : Value → Shared → Prop} {pins : List (Addr × Obj)} {s : Shared} {σ : St} {H : Hp} {x : Str} {u : Value} {pos : Pos} {Q : Value → Shared → Prop} (I : Inv X pins σ H s) (hg : Gl X x) (hm : X.mg x = none) (hv : bootBuiltins x = some u) (h : Q u s)
    (hn : x ≠ "__name__" := by decide) (hd : (x == ("__debug__" : Str)) = false := by decide) : wpAny (model X.prog X.w) X.A (eval (.Name x pos) X.env) Q E s := by
  obtain ⟨mb, h1, h2⟩ := I.mod.blt
  exact Calls.Name_function_global I.ok.kind hg (Calls.loadGlobal_builtin (by rw [I.ok.glob]; exact I.mod.glob.keeps I.bk) hm (by rw [I.ok.blt]; exact h1.keeps I.bk) ((h2 x hn).trans hv) h) hd
/-- a module's constant, a class, a function, as a value -/
theorem pe_glob {x : Str} {v : V} {u : Value} {pos : Pos} (hg : Gl X x) (hm : X.mg x = some u) (r : RelV v u) (hd : (x == ("__debug__" : Str)) = false := by decide) : PE X (.Name x pos) (tC v) :=
  fun _ _ _ H _ I h => ld_glob I hg hm ⟨v, H, I, r, h⟩ hd

/-! ### arithmetic -/
variable {a b : Expr} {ta tb : TE} {pos : Pos}

/-! ### comparisons -/
def PC (X : Cx) (op : CmpOp) (a b : Expr) (t : TE) : Prop :=
  ∀ (pins : List (Addr × Obj)) (s : Shared) (σ : St) (H : Hp) (Q : VK), Inv X pins σ H s → t σ H Q →
    wpAny (model X.prog X.w) X.A (eval a X.env) (fun v s₁ => wpAny (model X.prog X.w) X.A (eval b X.env) (fun u s₂ => wpAny (model X.prog X.w) X.A (compareOp op v u) (EP X pins σ Q) X.xe s₂) X.xe s₁) X.xe s
/-- a comparison as a value, as a test -/
def tB (t : TE) : TT := fun σ H Q => t σ H fun x H1 => ∃ c, x = .bl c ∧ Q c H1
theorem pt_cmp {op : CmpOp} {t : TE} (h : PC X op a b t) (h1 : behindInMarks op b = false := by first | exact nobehind _ (by decide) (by decide) | rfl) : PT X (.Compare a [op] [b] pos) (tB t) := by
  intro pins s σ H Q I hw
  refine wpAny_isTrue_Compare1 (thn (h pins s σ H _ I hw) fun v s1 h1 => thn h1 fun u s2 h2 => thn h2 fun c s3 ⟨x, H1, I1, r1, q1⟩ => ?_) h1
  obtain ⟨d, rfl, q⟩ := q1
  cases r1
  exact wpAny_truthy_bool ⟨H1, I1, q⟩
/-- an expression whose value is a bool, as a test -/
theorem pt_val {e : Expr} {t : TE} (h : PE X e t) (he : ∀ whole, isTrue e X.env whole = (do let v ← whole; standAt e.pos; holding [v] (truthy v)) := by intro _; rfl) : PT X e (tB t) := by
  intro pins s σ H Q I hw
  refine isTrue_plain (thn (h pins s σ H _ I hw) fun v s1 ⟨x, H1, I1, r1, q1⟩ => ?_) (he _)
  obtain ⟨d, rfl, q⟩ := q1
  cases r1
  exact wpAny_truthy_bool ⟨H1, I1, q⟩

/-! ### and, or, not -/
variable {tA tB' : TT} {rest : List Expr}
def tAnd (t u : TT) : TT := fun σ H Q => t σ H fun c H1 => if c = true then u σ H1 Q else Q false H1
def tOr (t u : TT) : TT := fun σ H Q => t σ H fun c H1 => if c = true then Q true H1 else u σ H1 Q
def tNot (t : TT) : TT := fun σ H Q => t σ H fun c H1 => Q (!c) H1
theorem pw_and1 (ha : PT X a tA) : PW X (.BoolOp .And [a] pos) tA := by
  intro wh pins s σ H Q I h
  refine isTrue_and (thn (ha pins s σ H Q I h) fun c s1 e => ?_)
  cases c with
  | true => exact isTrue_and_nil e
  | false => exact e
theorem pw_or1 (ha : PT X a tA) : PW X (.BoolOp .Or [a] pos) tA := by
  intro wh pins s σ H Q I h
  refine isTrue_or (thn (ha pins s σ H Q I h) fun c s1 e => ?_)
  cases c with
  | false => exact isTrue_or_nil e
  | true => exact e
theorem pw_and (ha : PT X a tA) (hb : PW X (.BoolOp .And (b :: rest) pos) tB') : PW X (.BoolOp .And (a :: b :: rest) pos) (tAnd tA tB') := by
  intro wh pins s σ H Q I h
  refine isTrue_and (thn (ha pins s σ H _ I h) fun c s1 ⟨H1, I1, q1⟩ => ?_)
  cases c with
  | true => exact hb wh pins s1 σ H1 Q I1 q1
  | false => exact ⟨H1, I1, q1⟩
theorem pw_or (ha : PT X a tA) (hb : PW X (.BoolOp .Or (b :: rest) pos) tB') : PW X (.BoolOp .Or (a :: b :: rest) pos) (tOr tA tB') := by
  intro wh pins s σ H Q I h
  refine isTrue_or (thn (ha pins s σ H _ I h) fun c s1 ⟨H1, I1, q1⟩ => ?_)
  cases c with
  | true => exact ⟨H1, I1, q1⟩
  | false => exact hb wh pins s1 σ H1 Q I1 q1
theorem pt_not (ha : PT X a tA) : PT X (.UnaryOp .Not a pos) (tNot tA) := by
  intro pins s σ H Q I h
  exact isTrue_not (ha pins s σ H (fun c H1 => Q (!c) H1) I h)
/-- .. as values (bools) -/
def tAndV (ta tb : TE) : TE := fun σ H Q => ta σ H fun x H1 => ∃ c, x = .bl c ∧ if c = true then tb σ H1 Q else Q (.bl false) H1
theorem pe_one {op} {t : TE} (h : PE X a t) : PE X (.BoolOp op [a] pos) t := fun pins s σ H Q I hw => BoolOp_one (h pins s σ H Q I hw)
theorem pe_and (ha : PE X a ta) (hb : PE X (.BoolOp .And (b :: rest) pos) tb) : PE X (.BoolOp .And (a :: b :: rest) pos) (tAndV ta tb) := by
  intro pins s σ H Q I h
  refine BoolOp_and (thn (ha pins s σ H _ I h) fun v s1 ⟨x, H1, I1, r1, q1⟩ => ?_)
  obtain ⟨c, rfl, q1⟩ := q1
  cases r1
  refine wpAny_truthy_bool ?_
  cases c with
  | true => exact hb pins s1 σ H1 Q I1 q1
  | false => exact ⟨.bl false, H1, I1, rfl, q1⟩
end
end L2

namespace L2
open PySem PySem.Spec PyProof.Rows

/-! ### a list, a tuple that is read: tracked, frozen, or an object of the module -/
def SqL (K : PySem.W.Frag) (H : Hp) (a : Addr) (xs : List V) : Prop :=
  Rd H a (.lst xs) ∨
    ∃ (o : Obj) (its : Array Value) (n : Nat), K.lookup a = some o ∧ o.cls = .type "list" ∧ o.dict = none ∧ o.data = .seq its n ∧ its.size ≤ sizeLine ∧ Vals xs its.toList
def SqT (K : PySem.W.Frag) (H : Hp) (a : Addr) (xs : List V) : Prop :=
  Rd H a (.tup xs) ∨
    ∃ (o : Obj) (its : Array Value) (n : Nat), K.lookup a = some o ∧ o.cls = .type "tuple" ∧ o.data = .seq its n ∧ its.size ≤ sizeLine ∧ Vals xs its.toList
def absV : Value → Option V
  | .none => some .non
  | .bool b => some (.bl b)
  | .int i _ => some (.int i)
  | .str x _ => some (.str x)
  | .bytes b _ => some (.byt b)
  | .float b _ => some (.flt b)
  | .ref a => some (.ref a)
  | .type n => some (.ty n)
  | _ => none
theorem RelV.abs {x : V} {u : Value} (r : RelV x u) : absV u = some x := by
  cases x with
  | non => cases r; rfl
  | bl _ => cases r; rfl
  | int _ => obtain ⟨t, rfl⟩ := r; rfl
  | str _ => obtain ⟨t, rfl⟩ := r; rfl
  | byt _ => obtain ⟨t, rfl⟩ := r; rfl
  | flt _ => obtain ⟨t, rfl⟩ := r; rfl
  | ref _ => cases r; rfl
  | ty _ => cases r; rfl
theorem RelV.inj {x y : V} {u : Value} (r : RelV x u) (q : RelV y u) : x = y := Option.some.inj (r.abs.symm.trans q.abs)
theorem Vals.inj : ∀ {xs ys : List V} {us : List Value}, Vals xs us → Vals ys us → xs = ys
  | _, _, _, .nil, .nil => rfl
  | _, _, _, .cons r t, .cons r' t' => by rw [r.inj r', Vals.inj t t']
section
variable {X : Cx} {pins : List (Addr × Obj)} {σ : St} {H : Hp} {s : Shared} {a : Addr} {xs ys : List V}
theorem SqL.of {K : PySem.W.Frag} (h : H a = some (.lst xs)) : SqL K H a xs := .inl (.inl h)
theorem SqT.of {K : PySem.W.Frag} (h : H a = some (.tup xs)) : SqT K H a xs := .inl (.inl h)
theorem Inv.list (I : Inv X pins σ H s) (h : SqL X.K H a xs) : ∃ its : List Value, Vals xs its ∧ PlainL s.heap a its.toArray ∧ xs.length ≤ sizeLine := by
  rcases h with h | ⟨o, its, n, hk, hc, hd, hs, hz, r⟩
  · obtain ⟨z, its, n, r, e⟩ := h.ok I.hok
    exact ⟨its, r, ⟨_, n, e, rfl, rfl, rfl⟩, z⟩
  · refine ⟨its.toList, r, ⟨o, n, I.kIn a o hk, hc, hd, by simpa using hs⟩, ?_⟩
    have e := r.length
    simp only [Array.length_toList] at e
    omega
theorem Inv.tuple (I : Inv X pins σ H s) (h : SqT X.K H a xs) : ∃ its : List Value, Vals xs its ∧ IsTup s.heap a its.toArray ∧ xs.length ≤ sizeLine := by
  rcases h with h | ⟨o, its, n, hk, hc, hs, hz, r⟩
  · obtain ⟨z, its, r, p⟩ := h.ok I.hok
    exact ⟨its, r, p, z⟩
  · refine ⟨its.toList, r, ⟨o, I.kIn a o hk, hc, n, by simpa using hs⟩, ?_⟩
    have e := r.length
    simp only [Array.length_toList] at e
    omega
theorem Inv.list_inj (I : Inv X pins σ H s) (h : SqL X.K H a xs) (h' : SqL X.K H a ys) : xs = ys := by
  obtain ⟨its, r, ⟨o, n, e, _, _, d⟩, _⟩ := I.list h
  obtain ⟨its', r', ⟨o', n', e', _, _, d'⟩, _⟩ := I.list h'
  rw [e] at e'; cases e'
  rw [d] at d'
  injection d' with d1 _
  have : its = its' := by simpa using congrArg Array.toList d1
  subst this
  exact r.inj r'
end

/-! ### another wish about exceptions -/
abbrev Cx.wish (X : Cx) (E : Value → Shared → Prop) : Cx := { X with xe := E }
/-- no exception leaves -/
abbrev Cx.nox (X : Cx) : Cx := X.wish fun _ _ => False
theorem Cx.Ok.wish {X : Cx} (ok : X.Ok) (E : Value → Shared → Prop) : (X.wish E).Ok :=
  ⟨ok.mod, ok.kind, ok.glob, ok.blt, ok.above, ok.inj, ok.has, ok.cab, ok.hd, ok.frames, ok.stk, ok.exf, ok.bs, ok.bsz, ok.noex, ok.exfs, ok.funs, ok.frf⟩
theorem Cx.Ok.unwish {X : Cx} {E : Value → Shared → Prop} (ok : (X.wish E).Ok) : X.Ok :=
  ⟨ok.mod, ok.kind, ok.glob, ok.blt, ok.above, ok.inj, ok.has, ok.cab, ok.hd, ok.frames, ok.stk, ok.exf, ok.bs, ok.bsz, ok.noex, ok.exfs, ok.funs, ok.frf⟩
section
variable {X : Cx} {pins : List (Addr × Obj)} {σ : St} {H : Hp} {s : Shared} {E : Value → Shared → Prop}
theorem Inv.wish (I : Inv X pins σ H s) (E : Value → Shared → Prop) : Inv (X.wish E) pins σ H s := ⟨I.ok.wish E, I.os, I.bare, I.base, I.loc, I.cell, I.free, I.freeC, I.pin, I.hok, I.len⟩
theorem Inv.unwish (I : Inv (X.wish E) pins σ H s) : Inv X pins σ H s := ⟨I.ok.unwish, I.os, I.bare, I.base, I.loc, I.cell, I.free, I.freeC, I.pin, I.hok, I.len⟩
theorem SP.unwish {D : Ends} {f : Flow} {s' : Shared} (h : SP (X.wish E) pins D f s') : SP X pins D f s' := by
  cases f with
  | next => obtain ⟨σ', H', I, q⟩ := h; exact ⟨σ', H', I.unwish, q⟩
  | brk => obtain ⟨σ', H', I, q⟩ := h; exact ⟨σ', H', I.unwish, q⟩
  | cont => obtain ⟨σ', H', I, q⟩ := h; exact ⟨σ', H', I.unwish, q⟩
  | ret u => obtain ⟨v, σ', H', I, r, q⟩ := h; exact ⟨v, σ', H', I.unwish, r, q⟩
theorem PSs.nox {st : List Stmt} {t : TS} (h : PSs X.nox st t) : PSs X st t := fun pins s σ H D I hw =>
  wpAny_mono (h pins s σ H D (I.wish _) hw) (fun _ _ q => q.unwish) fun _ _ z => False.elim z
end

/-! ### blocks and small statements -/
section
variable {X : Cx} {st : Stmt} {rest : List Stmt} {t u : TS} {e : Expr} {te : TE} {pos : Pos}
def tNext : TS := fun D σ H => D.nx σ H
def tSeq (t u : TS) : TS := fun D σ H => t { D with nx := u D } σ H
theorem pss_nil : PSs X [] tNext := fun _ _ σ H _ I h => wpAny_execs_nil ⟨σ, H, I, h⟩
theorem pss_cons (h1 : PS X st t) (h2 : PSs X rest u) : PSs X (st :: rest) (tSeq t u) := by
  intro pins s σ H D I h
  refine wpAny_execs_cons (thn (h1 pins s σ H { D with nx := u D } I h) fun f s1 q => ?_)
  cases f with
  | next =>
    obtain ⟨σ', H', I', q⟩ := q
    exact h2 pins s1 σ' H' D I' q
  | ret v => exact q
  | brk => exact q
  | cont => exact q
theorem pss_one (h1 : PS X st t) : PSs X [st] t := by
  intro pins s σ H D I h
  refine wpAny_execs_cons (thn (h1 pins s σ H D I h) fun f s1 q => ?_)
  cases f with
  | next => exact wpAny_execs_nil q
  | ret v => exact q
  | brk => exact q
  | cont => exact q
/-- in a def's body nothing is shown -/
theorem Inv.quiet {pins : List (Addr × Obj)} {σ : St} {H : Hp} {s : Shared} (I : Inv X pins σ H s) : interactive X.env = false := by simp [interactive, I.ok.kind]
/-- an expression whose value is dropped -/
def tDrop (te : TE) : TS := fun D σ H => te σ H fun _ H1 => D.nx σ H1
theorem ps_expr (he : PE X e te) (hs : swapsWith e none pos.line X.env = pure false := by rfl) : PS X (.Expr e pos) (tDrop te) := by
  intro pins s σ H D I h
  exact wpAny_Expr_any (thn (he pins s σ H _ I h) fun v s1 ⟨x, H1, I1, r1, q1⟩ => ⟨σ, H1, I1, q1⟩) I.quiet hs
def tRet (te : TE) : TS := fun D σ H => te σ H D.rt
theorem ps_ret (he : PE X e te) : PS X (.Return (some e) pos) (tRet te) := by
  intro pins s σ H D I h
  exact wpAny_Return_some (thn (he pins s σ H _ I h) fun v s1 ⟨x, H1, I1, r1, q1⟩ => ⟨x, σ, H1, I1, r1, q1⟩)
def tIfS (c : TT) (t u : TS) : TS := fun D σ H => c σ H fun b H1 => if b = true then t D σ H1 else u D σ H1
theorem ps_if {c : Expr} {a b : List Stmt} {tc : TT} (hc : PT X c tc) (ha : PSs X a t) (hb : PSs X b u) : PS X (.If c a b pos) (tIfS tc t u) := by
  intro pins s σ H D I h
  refine wpAny_If (thn (hc pins s σ H _ I h) fun d s1 ⟨H1, I1, q1⟩ => ?_)
  cases d with
  | true => exact ha pins s1 σ H1 D I1 q1
  | false => exact hb pins s1 σ H1 D I1 q1
end

/-! ### targets -/
abbrev TG := V → St → Hp → (St → Hp → Prop) → Prop
abbrev TGs := List V → St → Hp → (St → Hp → Prop) → Prop
def PG (X : Cx) (target : Expr) (t : TG) : Prop :=
  ∀ (pins : List (Addr × Obj)) (s : Shared) (σ : St) (H : Hp) (v : V) (u : Value) (Q : St → Hp → Prop), Inv X pins σ H s → RelV v u → t v σ H Q →
    wpAny (model X.prog X.w) X.A (assign target X.env u) (fun _ s' => ∃ σ' H', Inv X pins σ' H' s' ∧ Q σ' H') X.xe s
/-- several targets, one after another -/
def PGs (X : Cx) (ts : List Expr) (t : TGs) : Prop :=
  ∀ (pins : List (Addr × Obj)) (s : Shared) (σ : St) (H : Hp) (vs : List V) (us : List Value) (Q : St → Hp → Prop), Inv X pins σ H s → Vals vs us → t vs σ H Q →
    wpAny (model X.prog X.w) X.A (assignInOrder ((assignEach ts X.env).map (·.2)) us) (fun _ s' => ∃ σ' H', Inv X pins σ' H' s' ∧ Q σ' H') X.xe s
section
variable {X : Cx} {pos : Pos}
def gName (i : Nat) : TG := fun v σ H Q => Q (σ.set i (some v)) H
theorem pg_name {i : Nat} {x : Str} (hN : X.N.Nodup) (hi : X.N[i]? = some x) (hx : Loc X.env.scope x) (hf : X.fn x = true ∨ X.env.scope.names.lookup x = some .local := by first | exact .inl rfl | exact .inr rfl | assumption) : PG X (.Name x pos) (gName i) := by
  intro pins s σ H v u Q I r h
  exact wpAny_assign_Name (store_ok I hN hi hx r (fun s' I' => ⟨_, H, I', h⟩) hf)
def gNil : TGs := fun vs σ H Q => vs = [] ∧ Q σ H
def gCons (t : TG) (u : TGs) : TGs := fun vs σ H Q => ∃ v r, vs = v :: r ∧ t v σ H fun σ' H' => u r σ' H' Q
theorem pgs_nil : PGs X [] gNil := by
  intro pins s σ H vs us Q I r h
  obtain ⟨e, h⟩ := h
  subst e
  cases r
  exact assignInOrder_nil ⟨σ, H, I, h⟩
theorem pgs_cons {e : Expr} {es : List Expr} {t : TG} {u : TGs} (h1 : PG X e t) (h2 : PGs X es u)
    (hs : (assignEach (e :: es) X.env).map (·.2) = assign e X.env :: (assignEach es X.env).map (·.2) := by rfl) : PGs X (e :: es) (gCons t u) := by
  intro pins s σ H vs us Q I r h
  obtain ⟨v, vr, e1, h⟩ := h
  subst e1
  cases r with
  | cons r rr =>
    rw [hs]
    refine assignInOrder_cons (thn (h1 pins s σ H _ _ _ I r h) fun _ s1 ⟨σ1, H1, I1, q1⟩ => ?_)
    exact h2 pins s1 σ1 H1 _ _ Q I1 rr q1
/-- (a, b, ..) = a tuple of that length -/
def gTup (K : PySem.W.Frag) (n : Nat) (t : TGs) : TG := fun v σ H Q => ∃ a xs, v = .ref a ∧ SqT K H a xs ∧ xs.length = n ∧ t xs σ H Q
theorem pg_tup {es : List Expr} {k : Nat} {t : TGs} {n : Nat} (hc : X.calm = true) (h : PGs X es t)
    (hn : (assignEach es X.env).length = n := by rfl) (hst : (assignEach es X.env).findIdx? (·.1) = none := by rfl) : PG X (.Tuple es k pos) (gTup X.K n t) := by
  intro pins s σ H v u Q I r hw
  obtain ⟨a, xs, e1, hq, hl, hw⟩ := hw
  subst e1
  cases r
  obtain ⟨its, rv, ht, hz⟩ := I.tuple hq
  refine assign_Tuple_tuple (I.ok.hd hc) ht (by simp [hn, ← hl, rv.length]) hst fun h' hx => ?_
  have I1 : Inv X pins σ H { s with heap := h' } := I.kept (t' := s.toks) fun b o e => hx b o (Nat.ne_of_lt (Heap.lt_size e)) e
  exact h pins _ σ H xs _ Q I1 (by simpa using rv) hw
/-- target = value -/
def tAsg (te : TE) (g : TG) : TS := fun D σ H => te σ H fun x H1 => g x σ H1 D.nx
/-- name = value -/
theorem ps_set {i : Nat} {x : Str} {e : Expr} {te : TE} {pos' : Pos} (hN : X.N.Nodup) (hi : X.N[i]? = some x) (hx : Loc X.env.scope x) (he : PE X e te) (hs : swapsWith e (some (.Name x pos')) pos.line X.env = pure false := by rfl) (hf : X.fn x = true ∨ X.env.scope.names.lookup x = some .local := by first | exact .inl rfl | exact .inr rfl | assumption) :
    PS X (.Assign [.Name x pos'] e pos) (tAsg te (gName i)) := by
  intro pins s σ H D I h
  refine wpAny_Assign_Name (thn (he pins s σ H _ I h) fun v s1 ⟨y, H1, I1, r1, q1⟩ => ?_) hs
  exact store_ok I1 hN hi hx r1 (fun s2 I2 => ⟨_, H1, I2, q1⟩) hf
end

/-! ### while -/
section
variable {X : Cx} {pos : Pos}
/-- the invariant W with its measure -/
def tWhile (c : TT) (tb : TS) : TS := fun D σ H => ∃ W : Nat → St → Hp → Prop, (∃ m, W m σ H) ∧ ∀ m σ H, W m σ H →
  c σ H fun b H1 => if b = true then ∃ N : St → Hp → Prop, (∀ σ' H', N σ' H' → ∃ m', m' < m ∧ W m' σ' H') ∧ tb { D with nx := N, ct := N, bk := D.nx } σ H1 else D.nx σ H1
theorem ps_while {c : Expr} {body : List Stmt} {tc : TT} {tb : TS} (hp : PassesOwn (model X.prog X.w) X.A X.env X.xe) (hc : PT X c tc) (hb : PSs X body tb) : PS X (.While c body [] pos) (tWhile tc tb) := by
  intro pins s σ H D I h
  obtain ⟨W, ⟨m0, w0⟩, turn⟩ := h
  refine wpAny_While (codeAny_whileLoop (fun n s' => ∃ σ' H', Inv X pins σ' H' s' ∧ W n σ' H') ?_ m0 ⟨σ, H, I, w0⟩)
  rintro n s1 ⟨σ1, H1, I1, w1⟩
  refine wpAny_passesOwn hp (thn (hc pins s1 σ1 H1 _ I1 (turn n σ1 H1 w1)) fun b s2 ⟨H2, I2, q2⟩ => ?_)
  cases b with
  | true =>
    obtain ⟨N, hN, q2⟩ := q2
    rw [if_pos rfl]
    refine wpAny_passesOwn hp (thn (hb pins s2 σ1 H2 _ I2 q2) fun f s3 q3 => ?_)
    cases f with
    | next =>
      obtain ⟨σ3, H3, I3, n3⟩ := q3
      obtain ⟨m', hm, w3⟩ := hN σ3 H3 n3
      exact ⟨m', hm, σ3, H3, I3, w3⟩
    | cont =>
      obtain ⟨σ3, H3, I3, n3⟩ := q3
      obtain ⟨m', hm, w3⟩ := hN σ3 H3 n3
      exact ⟨m', hm, σ3, H3, I3, w3⟩
    | brk => exact q3
    | ret v => exact q3
  | false =>
    rw [if_neg Bool.false_ne_true]
    exact wpAny_execs_nil ⟨σ1, H2, I2, q2⟩
end

/-! ### what a loop or a comprehension walks -/
/-- at turn i: it yields x (the heap may grow), or it stops -/
structure It where
  go : Nat → Hp → Prop
  yld : Nat → Hp → V → Hp → Prop
  stop : Nat → Hp → Prop
/-- the iterator's own objects may turn: they are not the frame's, not pinned, younger than the entry (or a comprehension's own) -/
def FpOk (X : Cx) (pins : List (Addr × Obj)) (H : Hp) (b : Addr) : Prop :=
  H b = none ∧ b ≠ X.env.locals ∧ b ∉ X.fs ∧ (b ∈ X.ex ∨ X.s_0.heap.objs.size ≤ b) ∧ (∀ x c, X.env.cells.lookup x = some c → c ≠ b) ∧ ∀ p ∈ X.pn ++ pins, p.1 ≠ b
theorem Inv.fpOk {X : Cx} {pins : List (Addr × Obj)} {σ : St} {H H' : Hp} {s : Shared} {b : Addr} (I : Inv X pins σ H s) (hb : s.heap.objs.size ≤ b) (hn : H' b = none) : FpOk X pins H' b := by
  refine ⟨hn, Nat.ne_of_gt (Nat.lt_of_lt_of_le I.lt hb), I.nofs hb, .inr (Nat.le_trans I.sz hb), fun x c e z => ?_, fun p hp z => ?_⟩
  · obtain ⟨v, q⟩ := I.cell x c e
    exact absurd (Nat.lt_of_lt_of_le q.lt (by rw [z]; exact hb)) (Nat.lt_irrefl _)
  · exact absurd (Nat.lt_of_lt_of_le (Heap.lt_size (I.pin p hp).1) (by rw [z]; exact hb)) (Nat.lt_irrefl _)
structure Turn (P : Program) (w : World) (K : PySem.W.Frag) (tg : Expr) (J : It) (fp : List Addr) (it : Addr) (tn : Nat → Heap → Prop) : Prop where
  mem : it ∈ fp
  obj : ∀ i h, tn i h → ∀ b ∈ fp, ∃ o, h.get? b = some o ∧ ∀ v, o.data ≠ .cell v
  keep : ∀ i h h', tn i h → (∀ b ∈ fp, ∀ o, h.get? b = some o → h'.get? b = some o) → tn i h'
  item : ∀ (X : Cx), X.prog = P → X.w = w → X.K = K → X.calm = true → ∀ (i : Nat) (pins : List (Addr × Obj)) (s : Shared) (σ : St) (H : Hp) (E : Value → Shared → Prop), Inv X pins σ H s → (∀ b ∈ fp, FpOk X pins H b) → tn i s.heap → J.go i H →
    wpAny (model P w) X.A (pyNext (.ref it)) (fun r s1 => ∃ u, r = some u ∧
      wpAny (model P w) X.A (letOwnedTupleGo tg (.ref it) u) (fun _ s2 => ∃ x H', Inv X pins σ H' s2 ∧ RelV x u ∧ J.yld i H x H' ∧ tn (i + 1) s2.heap ∧ ∀ b ∈ fp, H' b = none) E s1) E s
  done : ∀ (X : Cx), X.prog = P → X.w = w → X.K = K → X.calm = true → ∀ (i : Nat) (pins : List (Addr × Obj)) (s : Shared) (σ : St) (H : Hp) (E : Value → Shared → Prop), Inv X pins σ H s → (∀ b ∈ fp, FpOk X pins H b) → tn i s.heap → J.stop i H →
    wpAny (model P w) X.A (pyNext (.ref it)) (fun r s1 => r = none ∧ Inv X pins σ H s1) E s
  self : ∀ (A : Around) (i : Nat) (s : Shared) (Q : Value → Shared → Prop) (E : Value → Shared → Prop), tn i s.heap → Q (.ref it) s → wpAny (model P w) A (pyIter (.ref it)) Q E s
abbrev TI := St → Hp → (It → Hp → Prop) → Prop
/-- an iterator has come -/
def PIE (X : Cx) (pins : List (Addr × Obj)) (σ : St) (tg : Expr) (R : It → Hp → Prop) (itv : Value) (s2 : Shared) : Prop :=
  ∃ (it : Addr) (fp : List Addr) (tn : Nat → Heap → Prop) (J : It) (H' : Hp), itv = .ref it ∧ Inv X pins σ H' s2 ∧ Turn X.prog X.w X.K tg J fp it tn ∧ tn 0 s2.heap ∧ (∀ b ∈ fp, FpOk X pins H' b) ∧ R J H'
def PI (X : Cx) (tg iter : Expr) (wi : TI) : Prop :=
  ∀ (pins : List (Addr × Obj)) (s : Shared) (σ : St) (H : Hp) (R : It → Hp → Prop), Inv X pins σ H s → wi σ H R →
    wpAny (model X.prog X.w) X.A (eval iter X.env) (fun v s1 => wpAny (model X.prog X.w) X.A (pyIter v) (PIE X pins σ tg R) X.xe s1) X.xe s

/-- the step ahead of the store is nothing for an iterator that keeps no tuple -/
theorem go_of {M : Model} {A : Around} {E : Value → Shared → Prop} {s : Shared} {tg : Expr} {it : Addr} {u : Value} {o : Obj} {n : String} {vs : Array Value} {Q : Unit → Shared → Prop} (ho : s.heap.get? it = some o) (hc : o.cls = .type n) (hd : o.data = .fields vs)
    (hn : ["enumerate", "zip", "dict_itemiterator", "dict_reverseitemiterator", "odict_iterator", "itertools.zip_longest", "itertools.pairwise"].contains n = false) (hQ : Q () s) : wpAny M A (letOwnedTupleGo tg (.ref it) u) Q E s := by
  unfold letOwnedTupleGo
  cases tg <;> first
    | exact wpAny_pure hQ
    | (cases u <;> first
        | exact wpAny_pure hQ
        | (refine wpAny_bind (wpAny_load ho ?_)
           rw [hc, hd]
           show wpAny M A (if (["enumerate", "zip", "dict_itemiterator", "dict_reverseitemiterator", "odict_iterator", "itertools.zip_longest", "itertools.pairwise"].contains n && vs[0]? == some (rawInt _)) = true then _ else _) Q E s
           rw [if_neg (by intro h; rw [hn, Bool.false_and] at h; cases h)]
           exact wpAny_pure hQ))

/-- the list at a, as it stands at each turn (a loop may append to it) -/
def Itl (K : PySem.W.Frag) (a : Addr) : It :=
  ⟨fun i H => ∃ xs x, SqL K H a xs ∧ xs[i]? = some x, fun i H x H' => H' = H ∧ ∀ xs, SqL K H a xs → xs[i]? = some x, fun i H => ∃ xs, SqL K H a xs ∧ xs.length ≤ i⟩
/-- lo, lo + 1, .. (n of them) -/
def Itr (lo : Int) (n : Nat) : It := ⟨fun i _ => i < n, fun i H x H' => H' = H ∧ x = .int (lo + i), fun i _ => n ≤ i⟩
theorem turn_list {P : Program} {w : World} {K : PySem.W.Frag} {tg : Expr} (a it : Addr) : Turn P w K tg (Itl K a) [it] it (fun i h => h.IsListIter it a i) where
  mem := by simp
  obj := fun i h st b hb => by
    have e : b = it := by simpa using hb
    subst e
    obtain ⟨o, e, c, d⟩ := st
    exact ⟨o, e, fun v z => by rw [d] at z; cases z⟩
  keep := fun i h h' st k => st.at fun o e => k it (by simp) o e
  item := by
    intro X hP hw hK hc i pins s σ H E I hf st hg
    subst hP hw hK
    obtain ⟨xs, x, hq, hx⟩ := hg
    obtain ⟨its, rv, p, hz⟩ := I.list hq
    obtain ⟨u, hu, ru⟩ := rv.get hx
    obtain ⟨f0, f1, f2, f3, f4, f5⟩ := hf it (by simp)
    refine wpAny_pyNext_list_item st p.isList (x := u) (by simpa using hu) fun h' st' sb => ?_
    have I1 : Inv X pins σ H { s with heap := h' } := I.turned (t' := s.toks) (fun b o hb e => (sb.2 b hb).trans e) f0 f1 f3 f4 f5
    obtain ⟨o, e, c, d⟩ := id st'
    exact ⟨u, rfl, go_of (s := { s with heap := h' }) e c d (by decide) ⟨x, H, I1, ru, ⟨rfl, fun ys hy => by rw [I.list_inj hy hq]; exact hx⟩, st', fun b hb => (hf b hb).1⟩⟩
  done := by
    intro X hP hw hK hc i pins s σ H E I hf st hg
    subst hP hw hK
    obtain ⟨xs, hq, hx⟩ := hg
    obtain ⟨its, rv, p, hz⟩ := I.list hq
    obtain ⟨f0, f1, f2, f3, f4, f5⟩ := hf it (by simp)
    have hl := rv.length
    exact wpAny_pyNext_list_end (I.ok.hd hc) st p.isList (by simp; omega) fun h' eb => ⟨rfl, I.turned (t' := s.toks) (fun b o hb e => eb b o hb e) f0 f1 f3 f4 f5⟩
  self := fun _ _ _ _ _ st h => wpAny_pyIter_listiter st h
theorem turn_range {P : Program} {w : World} {K : PySem.W.Frag} {tg : Expr} (it : Addr) (lo : Int) (n : Nat) : Turn P w K tg (Itr lo n) [it] it (fun i h => IsRangeIter h it (lo + (i : Nat) * 1) ((n : Int) - (i : Nat)) 1) where
  mem := by simp
  obj := fun i h st b hb => by
    have e : b = it := by simpa using hb
    subst e
    exact ⟨_, st, fun v z => by
      have z' : Data.fields _ = Data.cell v := z
      cases z'⟩
  keep := fun i h h' st k => k it (by simp) _ st
  item := by
    intro X hP hw hK hc i pins s σ H E I hf st hg
    subst hP hw hK
    obtain ⟨f0, f1, f2, f3, f4, f5⟩ := hf it (by simp)
    have W := Walks.range (prog := X.prog) (w := X.w) (I.ok.hd hc) it lo 1 n
    refine W.item i s _ _ hg st fun v h' tk hv st' kk => ?_
    obtain ⟨t, rfl⟩ := hv
    have I1 : Inv X pins σ H { s with heap := h', toks := tk } := I.turned (fun b o hb e => kk b o (by simpa using hb) e) f0 f1 f3 f4 f5
    refine ⟨_, rfl, go_of (s := { s with heap := h', toks := tk }) (n := "range_iterator") st' rfl rfl (by decide) ⟨.int (lo + i), H, I1, ⟨t, ?_⟩, ⟨rfl, rfl⟩, st', fun b hb => (hf b hb).1⟩⟩
    rw [Int.mul_one]
  done := by
    intro X hP hw hK hc i pins s σ H E I hf st hg
    subst hP hw hK
    obtain ⟨f0, f1, f2, f3, f4, f5⟩ := hf it (by simp)
    exact wpAny_pyNext_range_end (I.ok.hd hc) st (by have : n ≤ i := hg; omega) fun h' eb => ⟨rfl, I.turned (t' := s.toks) (fun b o hb e => eb b o hb e) f0 f1 f3 f4 f5⟩
  self := fun _ _ _ _ _ st h => wpAny_pyIter_rangeiter st h
end L2

namespace L2
open PySem PySem.Spec PyProof.Rows
section
variable {X : Cx} {tg : Expr}
def iList (K : PySem.W.Frag) (tl : TE) : TI := fun σ H R => tl σ H fun x H1 => ∃ a, x = .ref a ∧ (∃ xs, SqL K H1 a xs) ∧ R (Itl K a) H1
theorem pi_list {l : Expr} {tl : TE} (hl : PE X l tl) : PI X tg l (iList X.K tl) := by
  intro pins s σ H R I h
  refine thn (hl pins s σ H _ I h) fun v s1 ⟨x, H1, I1, r1, q1⟩ => ?_
  obtain ⟨a, e, ⟨xs, hq⟩, q⟩ := q1
  subst e
  cases r1
  obtain ⟨its, rv, p, hz⟩ := I1.list hq
  refine wpAny_pyIter_list p.isList ?_
  refine ⟨s1.heap.objs.size, [s1.heap.objs.size], _, _, H1, rfl, I1.kept (t' := s1.toks) fun b o e => Heap.get?_push_of_some _ e, turn_list a _, ⟨_, Heap.get?_push_size _ rfl, rfl, rfl⟩, fun b hb => ?_, q⟩
  have e : b = s1.heap.objs.size := by simpa using hb
  subst e
  exact I1.fpOk (Nat.le_refl _) (I1.hok.fresh (Nat.le_refl _))
/-- a range object just made, walked -/
theorem range_it {pins : List (Addr × Obj)} {σ : St} {H : Hp} {s : Shared} {R : It → Hp → Prop} {E : Value → Shared → Prop} {lo hi : Int} {t u v : Tok} {tk : Nat} (I : Inv X pins σ H s) (h1 : -(2 ^ 62) ≤ lo) (h2 : lo < 2 ^ 62) (h3 : -(2 ^ 62) ≤ hi) (h4 : hi < 2 ^ 62)
    (q : R (Itr lo (hi - lo).toNat) H) : wpAny (model X.prog X.w) X.A (pyIter (.ref s.heap.objs.size)) (PIE X pins σ tg R) E { s with heap := s.heap.push { cls := .type "range", data := .fields #[.int lo t, .int hi u, .int 1 v] }, toks := tk } := by
  refine wpAny_pyIter_range (IsRange.new ..) (small_one h1 h2 h3 h4) ?_
  have I1 : Inv X pins σ H { s with heap := s.heap.push { cls := .type "range", data := .fields #[.int lo t, .int hi u, .int 1 v] }, toks := tk } := I.kept fun b o e => Heap.get?_push_of_some _ e
  refine ⟨(s.heap.push { cls := .type "range", data := .fields #[.int lo t, .int hi u, .int 1 v] }).objs.size, [(s.heap.push { cls := .type "range", data := .fields #[.int lo t, .int hi u, .int 1 v] }).objs.size], _, _, H, rfl,
    I1.kept (t' := tk) fun b o e => Heap.get?_push_of_some _ e, turn_range _ lo (hi - lo).toNat, ?_, fun b hb => ?_, q⟩
  · have e1 : lo + ((0 : Nat) : Int) * 1 = lo := by simp
    have e2 : (((hi - lo).toNat : Nat) : Int) - ((0 : Nat) : Int) = Builtin.Range.rangeSize lo hi 1 := by rw [rangeSize_one]; split <;> omega
    show IsRangeIter _ _ (lo + ((0 : Nat) : Int) * 1) ((((hi - lo).toNat : Nat) : Int) - ((0 : Nat) : Int)) 1
    rw [e1, e2]
    exact Heap.get?_push_size _ rfl
  · have e : b = (s.heap.push { cls := .type "range", data := .fields #[.int lo t, .int hi u, .int 1 v] }).objs.size := by simpa using hb
    subst e
    exact I1.fpOk (Nat.le_refl _) (I1.hok.fresh (Nat.le_refl _))
def iRng1 (ta : TA) : TI := fun σ H R => ta σ H fun vs H1 => ∃ j : Int, vs = [.int j] ∧ -(2 ^ 62) ≤ j ∧ j < 2 ^ 62 ∧ R (Itr 0 j.toNat) H1
def iRng2 (ta : TA) : TI := fun σ H R => ta σ H fun vs H1 => ∃ i j : Int, vs = [.int i, .int j] ∧ (-(2 ^ 62) ≤ i ∧ i < 2 ^ 62 ∧ -(2 ^ 62) ≤ j ∧ j < 2 ^ 62) ∧ R (Itr i (j - i).toNat) H1
theorem pi_range1 {a : Expr} {ta : TA} {p pos : Pos} (hg : Gl X "range") (hm : X.mg "range" = none) (ha : PA X [a] ta) (hs : starEach [a] X.env = [(false, eval a X.env)] := by rfl) : PI X tg (.Call (.Name "range" p) [a] [] pos) (iRng1 ta) := by
  intro pins s σ H R I h
  refine Call_ (ld_blt I hg hm boot_range (PyProof.Rows.callWith_type1 (thn (ha pos pins s σ H _ I h) fun us s1 ⟨vs, H1, I1, r1, q1⟩ => ?_) hs rfl))
  obtain ⟨j, e, q1, q2, q⟩ := q1
  subst e
  cases r1 with
  | cons r rr =>
    cases rr
    obtain ⟨t, rfl⟩ := r
    exact call_range_1 (range_it I1 (by omega) (by omega) q1 q2 (by simpa using q))
theorem pi_range2 {a b : Expr} {ta : TA} {p pos : Pos} (hg : Gl X "range") (hm : X.mg "range" = none) (ha : PA X [a, b] ta) (hs : starEach [a, b] X.env = [(false, eval a X.env), (false, eval b X.env)] := by rfl) (hs2 : starEach [b] X.env = [(false, eval b X.env)] := by rfl) :
    PI X tg (.Call (.Name "range" p) [a, b] [] pos) (iRng2 ta) := by
  intro pins s σ H R I h
  refine Call_ (ld_blt I hg hm boot_range (PyProof.Rows.callWith_type1 (thn (ha pos pins s σ H _ I h) fun us s1 ⟨vs, H1, I1, r1, q1⟩ => ?_) (by rw [hs, hs2]) (by rw [hs2]; rfl)))
  obtain ⟨i, j, e, ⟨q1, q2, q3, q4⟩, q⟩ := q1
  subst e
  cases r1 with
  | cons r rr =>
    cases rr with
    | cons r' rr =>
      cases rr
      obtain ⟨t, rfl⟩ := r
      obtain ⟨t', rfl⟩ := r'
      exact call_range_2 (range_it I1 q1 q2 q3 q4 q)

/-! ### for -/
/-- W: the invariant by the turn and a measure; N: what the body is to reach -/
def tFor (wi : TI) (g : TG) (tb : TS) : TS := fun D σ H => wi σ H fun J H1 => ∃ W : Nat → Nat → St → Hp → Prop, (∃ m, W 0 m σ H1) ∧ ∀ i m σ H, W i m σ H →
  (J.stop i H ∧ D.nx σ H) ∨ (J.go i H ∧ ∃ N : St → Hp → Prop, (∀ σ' H', N σ' H' → ∃ m', m' < m ∧ W (i + 1) m' σ' H') ∧ ∀ x H', J.yld i H x H' → g x σ H' fun σ2 H2 => tb { D with nx := N, ct := N, bk := D.nx } σ2 H2)
/-- the records at fp as they stand -/
def pinsAt (fp : List Addr) (h : Heap) : List (Addr × Obj) := fp.filterMap fun b => (h.get? b).map fun o => (b, o)
theorem mem_pinsAt {fp : List Addr} {h : Heap} {b : Addr} {o : Obj} (hb : b ∈ fp) (e : h.get? b = some o) : (b, o) ∈ pinsAt fp h := List.mem_filterMap.mpr ⟨b, hb, by rw [e]; rfl⟩
theorem of_pinsAt {fp : List Addr} {h : Heap} {p : Addr × Obj} (hp : p ∈ pinsAt fp h) : p.1 ∈ fp ∧ h.get? p.1 = some p.2 := by
  obtain ⟨b, hb, e⟩ := List.mem_filterMap.mp hp
  cases q : h.get? b with
  | none => rw [q] at e; cases e
  | some o =>
    rw [q] at e
    have e' : (b, o) = p := Option.some.inj e
    subst e'
    exact ⟨hb, q⟩
theorem Inv.pinned {pins : List (Addr × Obj)} {σ : St} {H : Hp} {s : Shared} {fp : List Addr} (I : Inv X pins σ H s) (hf : ∀ b ∈ fp, FpOk X pins H b) (ho : ∀ b ∈ fp, ∃ o, s.heap.get? b = some o ∧ ∀ v, o.data ≠ .cell v) : Inv X (pins ++ pinsAt fp s.heap) σ H s :=
  I.pins_of fun p hp => (List.mem_append.mp hp).elim (fun z => I.pin p (List.mem_append_right _ z)) fun z => by
    obtain ⟨hb, e⟩ := of_pinsAt z
    obtain ⟨f0, f1, f2, _⟩ := hf p.1 hb
    obtain ⟨o, e', d⟩ := ho p.1 hb
    rw [e] at e'; cases e'
    exact ⟨e, f0, f1, f2, d⟩
theorem Inv.unpinned {pins pl : List (Addr × Obj)} {σ : St} {H : Hp} {s : Shared} (I : Inv X (pins ++ pl) σ H s) : Inv X pins σ H s := I.pins_of fun p hp => I.pin p (List.mem_append_right _ (List.mem_append_left _ hp))
theorem ps_for {iter : Expr} {body : List Stmt} {wi : TI} {g : TG} {tb : TS} {pos : Pos} (hp : PassesOwn (model X.prog X.w) X.A X.env X.xe) (hc : X.calm = true) (hi : PI X tg iter wi) (hg : PG X tg g) (hb : PSs X body tb)
    (hs : ∀ x, foldedSetIterable iter X.env x = pure x := by intro _; rfl) : PS X (.For tg iter body [] pos) (tFor wi g tb) := by
  intro pins s σ H D I h
  refine wpAny_For (thn (hi pins s σ H _ I h) fun v s1 h1 => thn h1 fun itv s2 h2 => ?_) hs
  obtain ⟨it, fp, tn, J, H2, e, I2, T, st2, f2, W, ⟨m0, w0⟩, turn⟩ := h2
  subst e
  -- what stays true of the iterator's objects through the loop
  have stat : ∀ {H' : Hp}, (∀ b ∈ fp, H' b = none) → ∀ b ∈ fp, FpOk X pins H' b := fun hn b hb => ⟨hn b hb, (f2 b hb).2⟩
  refine codeAny_forLoop_any (fun n s' => ∃ i σ' H', Inv X pins σ' H' s' ∧ tn i s'.heap ∧ (∀ b ∈ fp, H' b = none) ∧ W i n σ' H') ?_ m0 ⟨0, σ, H2, I2, st2, fun b hb => (f2 b hb).1, w0⟩
  rintro n s3 ⟨i, σ3, H3, I3, st3, fr3, w3⟩
  rcases turn i n σ3 H3 w3 with ⟨stop, qn⟩ | ⟨go, N, hN, step⟩
  · refine wpAny_passesOwn hp (thn (T.done X rfl rfl rfl hc i pins s3 σ3 H3 X.xe I3 (stat fr3) st3 stop) fun r s4 ⟨hr, I4⟩ => ?_)
    subst hr
    exact wpAny_execs_nil ⟨σ3, H3, I4, qn⟩
  · refine wpAny_passesOwn hp (thn (T.item X rfl rfl rfl hc i pins s3 σ3 H3 X.xe I3 (stat fr3) st3 go) fun r s4 ⟨u, hr, h4⟩ => ?_)
    subst hr
    refine wpAny_passesOwn hp (thn h4 fun _ s5 ⟨x, H5, I5, r5, y5, st5, fr5⟩ => ?_)
    have I5' := I5.pinned (stat fr5) (T.obj _ _ st5)
    refine wpAny_passesOwn hp (thn (hg _ s5 σ3 H5 x u _ I5' r5 (step x H5 y5)) fun _ s6 ⟨σ6, H6, I6, q6⟩ => ?_)
    refine wpAny_passesOwn hp (thn (hb _ s6 σ6 H6 _ I6 q6) fun f s7 q7 => ?_)
    have again : ∀ {σ7 : St} {H7 : Hp}, Inv X (pins ++ pinsAt fp s5.heap) σ7 H7 s7 → N σ7 H7 → ∃ m, m < n ∧ ∃ i σ' H', Inv X pins σ' H' s7 ∧ tn i s7.heap ∧ (∀ b ∈ fp, H' b = none) ∧ W i m σ' H' := fun {σ7 H7} I7 n7 => by
      obtain ⟨m', hm, w7⟩ := hN σ7 H7 n7
      refine ⟨m', hm, i + 1, σ7, H7, I7.unpinned, T.keep _ _ _ st5 fun b hb o e => (I7.pin (b, o) (List.mem_append_right _ (List.mem_append_right _ (mem_pinsAt hb e)))).1, fun b hb => ?_, w7⟩
      obtain ⟨o, e, d⟩ := T.obj _ _ st5 b hb
      exact (I7.pin (b, o) (List.mem_append_right _ (List.mem_append_right _ (mem_pinsAt hb e)))).2.1
    cases f with
    | next => obtain ⟨σ7, H7, I7, n7⟩ := q7; exact again I7 n7
    | cont => obtain ⟨σ7, H7, I7, n7⟩ := q7; exact again I7 n7
    | brk => obtain ⟨σ7, H7, I7, q7⟩ := q7; exact ⟨σ7, H7, I7.unpinned, q7⟩
    | ret v => obtain ⟨x7, σ7, H7, I7, r7, q7⟩ := q7; exact ⟨x7, σ7, H7, I7.unpinned, r7, q7⟩
end

/-! ### the forms one uses -/
/-- over a list that the body leaves as it is -/
theorem for_list {K : PySem.W.Frag} {a : Addr} {xs : List V} {g : TG} {tb : TS} {D : Ends} {σ : St} {H : Hp} (Pv : Nat → St → Hp → Prop) (h0 : Pv 0 σ H) (hl : ∀ i σ H, i ≤ xs.length → Pv i σ H → SqL K H a xs)
    (hs : ∀ i x σ H, xs[i]? = some x → Pv i σ H → g x σ H fun σ2 H2 => tb { D with nx := Pv (i + 1), ct := Pv (i + 1), bk := D.nx } σ2 H2) (hd : ∀ σ H, Pv xs.length σ H → D.nx σ H) :
    ∃ W : Nat → Nat → St → Hp → Prop, (∃ m, W 0 m σ H) ∧ ∀ i m σ H, W i m σ H →
      ((Itl K a).stop i H ∧ D.nx σ H) ∨ ((Itl K a).go i H ∧ ∃ N : St → Hp → Prop, (∀ σ' H', N σ' H' → ∃ m', m' < m ∧ W (i + 1) m' σ' H') ∧ ∀ x H', (Itl K a).yld i H x H' → g x σ H' fun σ2 H2 => tb { D with nx := N, ct := N, bk := D.nx } σ2 H2) := by
  refine ⟨fun i m σ H => m = xs.length - i ∧ i ≤ xs.length ∧ Pv i σ H, ⟨xs.length, by simp, Nat.zero_le _, h0⟩, ?_⟩
  rintro i m σ H ⟨rfl, hi, p⟩
  have q := hl i σ H hi p
  by_cases hlt : i < xs.length
  · refine .inr ⟨⟨xs, xs[i], q, by simp [hlt]⟩, Pv (i + 1), fun σ' H' p' => ⟨xs.length - (i + 1), by omega, rfl, hlt, p'⟩, fun x H' y => ?_⟩
    obtain ⟨e, y⟩ := y
    subst e
    exact hs i x σ _ (y xs q) p
  · have e : i = xs.length := by omega
    subst e
    exact .inl ⟨⟨xs, q, Nat.le_refl _⟩, hd σ H p⟩
theorem for_range {lo : Int} {n : Nat} {g : TG} {tb : TS} {D : Ends} {σ : St} {H : Hp} (Pv : Nat → St → Hp → Prop) (h0 : Pv 0 σ H)
    (hs : ∀ i σ H, i < n → Pv i σ H → g (.int (lo + i)) σ H fun σ2 H2 => tb { D with nx := Pv (i + 1), ct := Pv (i + 1), bk := D.nx } σ2 H2) (hd : ∀ σ H, Pv n σ H → D.nx σ H) :
    ∃ W : Nat → Nat → St → Hp → Prop, (∃ m, W 0 m σ H) ∧ ∀ i m σ H, W i m σ H →
      ((Itr lo n).stop i H ∧ D.nx σ H) ∨ ((Itr lo n).go i H ∧ ∃ N : St → Hp → Prop, (∀ σ' H', N σ' H' → ∃ m', m' < m ∧ W (i + 1) m' σ' H') ∧ ∀ x H', (Itr lo n).yld i H x H' → g x σ H' fun σ2 H2 => tb { D with nx := N, ct := N, bk := D.nx } σ2 H2) := by
  refine ⟨fun i m σ H => m = n - i ∧ i ≤ n ∧ Pv i σ H, ⟨n, by simp, Nat.zero_le _, h0⟩, ?_⟩
  rintro i m σ H ⟨rfl, hi, p⟩
  by_cases hlt : i < n
  · refine .inr ⟨hlt, Pv (i + 1), fun σ' H' p' => ⟨n - (i + 1), by omega, rfl, hlt, p'⟩, fun x H' y => ?_⟩
    obtain ⟨e, y⟩ := y
    subst e y
    exact hs i σ _ hlt p
  · have e : i = n := by omega
    subst e
    exact .inl ⟨Nat.le_refl _, hd σ H p⟩
/-- while, by a word and a measure of the state -/
theorem while_by {c : TT} {tb : TS} {D : Ends} {σ : St} {H : Hp} (Pv : St → Hp → Prop) (μ : St → Hp → Nat) (h0 : Pv σ H)
    (hs : ∀ σ H, Pv σ H → c σ H fun b H1 => if b = true then tb { D with nx := fun σ' H' => Pv σ' H' ∧ μ σ' H' < μ σ H, ct := fun σ' H' => Pv σ' H' ∧ μ σ' H' < μ σ H, bk := D.nx } σ H1 else D.nx σ H1)
    (mono : ∀ σ H Q Q', (∀ b H1, Q b H1 → Q' b H1) → c σ H Q → c σ H Q') : tWhile c tb D σ H := by
  refine ⟨fun m σ H => m = μ σ H ∧ Pv σ H, ⟨_, rfl, h0⟩, ?_⟩
  rintro m σ H ⟨rfl, p⟩
  refine mono σ H _ _ (fun b H1 q => ?_) (hs σ H p)
  cases b with
  | true => exact ⟨_, fun σ' H' ⟨p', l⟩ => ⟨_, l, rfl, p'⟩, q⟩
  | false => exact q
end L2

namespace L2
open PySem PySem.Spec PyProof.Rows

abbrev R2 := V → V → Hp → VK → Prop
/-- a two-place operation on values: f is binaryOp op, inplaceOp op or compareOp op -/
def OpR (X : Cx) (f : Value → Value → Sem Value) (r : R2) : Prop :=
  ∀ (pins : List (Addr × Obj)) (s : Shared) (σ : St) (H : Hp) (x y : V) (v u : Value) (Q : VK), Inv X pins σ H s → RelV x v → RelV y u → r x y H Q →
    wpAny (model X.prog X.w) X.A (f v u) (EP X pins σ Q) X.xe s
/-- a one-place operation -/
def UnR (X : Cx) (f : Value → Sem Value) (r : V → Hp → VK → Prop) : Prop :=
  ∀ (pins : List (Addr × Obj)) (s : Shared) (σ : St) (H : Hp) (x : V) (v : Value) (Q : VK), Inv X pins σ H s → RelV x v → r x H Q →
    wpAny (model X.prog X.w) X.A (f v) (EP X pins σ Q) X.xe s
/-- a call of a value that is known (a builtin, a type) with values -/
def CallR (X : Cx) (f : Value) (r : List V → Hp → VK → Prop) : Prop :=
  ∀ (pins : List (Addr × Obj)) (s : Shared) (σ : St) (H : Hp) (xs : List V) (us : List Value) (Q : VK), Inv X pins σ H s → Vals xs us → r xs H Q →
    wpAny (model X.prog X.w) X.A (call f us) (EP X pins σ Q) X.xe s

def tOp (r : R2) (ta tb : TE) : TE := fun σ H Q => ta σ H fun x H1 => tb σ H1 fun y H2 => r x y H2 Q
def tUn (r : V → Hp → VK → Prop) (ta : TE) : TE := fun σ H Q => ta σ H fun x H1 => r x H1 Q
/-- ints in, under C, and a value out -/
def rI (C : Int → Int → Prop) (g : Int → Int → V) : R2 := fun x y H Q => ∃ i j, x = .int i ∧ y = .int j ∧ C i j ∧ Q (g i j) H
def rI0 (g : Int → Int → V) : R2 := fun x y H Q => ∃ i j, x = .int i ∧ y = .int j ∧ Q (g i j) H
def rU (g : Int → V) : V → Hp → VK → Prop := fun x H Q => ∃ i, x = .int i ∧ Q (g i) H

section
variable {X : Cx} {a b c : Expr} {ta tb tc : TE} {pos : Pos}

theorem binT (ha : PE X a ta) (hb : PE X b tb) {pins : List (Addr × Obj)} {s : Shared} {σ : St} {H : Hp} {R : V → V → Hp → Prop} (I : Inv X pins σ H s)
    (h : ta σ H fun x H1 => tb σ H1 fun y H2 => R x y H2) {Q : Value → Shared → Prop} {f : Value → Value → Sem Value}
    (hf : ∀ v u s2 x y H2, Inv X pins σ H2 s2 → RelV x v → RelV y u → R x y H2 → wpAny (model X.prog X.w) X.A (f v u) Q X.xe s2) :
    wpAny (model X.prog X.w) X.A (eval a X.env) (fun v s₁ => wpAny (model X.prog X.w) X.A (eval b X.env) (fun u s₂ => wpAny (model X.prog X.w) X.A (f v u) Q X.xe s₂) X.xe s₁) X.xe s := by
  refine thn (ha pins s σ H _ I h) fun v s1 ⟨x, H1, I1, r1, q1⟩ => ?_
  refine thn (hb pins s1 σ H1 _ I1 q1) fun u s2 ⟨y, H2, I2, r2, q2⟩ => ?_
  exact hf v u s2 x y H2 I2 r1 r2 q2

theorem pe_op {op : Operator} {r : R2} (ho : OpR X (binaryOp op) r) (ha : PE X a ta) (hb : PE X b tb) : PE X (.BinOp a op b pos) (tOp r ta tb) := by
  intro pins s σ H Q I h
  exact wpAny_BinOp (binT ha hb I h fun v u s2 x y H2 I2 rx ry q => ho pins s2 σ H2 x y v u Q I2 rx ry q)
theorem pe_un {op : UnaryOp} {r : V → Hp → VK → Prop} (ho : UnR X (unaryOp op) r) (ha : PE X a ta) : PE X (.UnaryOp op a pos) (tUn r ta) := by
  intro pins s σ H Q I h
  exact UnaryOp_ (thn (ha pins s σ H _ I h) fun v s1 ⟨x, H1, I1, r1, q1⟩ => ho pins s1 σ H1 x v Q I1 r1 q1)

/-! ### ints -/
theorem opI {f : Value → Value → Sem Value} {C : Int → Int → Prop} {g : Int → Int → Int}
    (rule : ∀ (i j : Int) (t u : Tok) (s : Shared) (Q : Value → Shared → Prop) (E : Value → Shared → Prop), C i j → Q (.int (g i j) s.toks) { s with toks := s.toks + 1 } → wpAny (model X.prog X.w) X.A (f (.int i t) (.int j u)) Q E s) :
    OpR X f (rI C fun i j => .int (g i j)) := by
  intro pins s σ H x y v u Q I rx ry h
  obtain ⟨i, j, rfl, rfl, hc, q⟩ := h
  obtain ⟨t, rfl⟩ := rx
  obtain ⟨t', rfl⟩ := ry
  exact rule i j t t' s _ _ hc ⟨.int (g i j), H, I.tok _, ⟨_, rfl⟩, q⟩
theorem opI0 {f : Value → Value → Sem Value} {g : Int → Int → Int}
    (rule : ∀ (i j : Int) (t u : Tok) (s : Shared) (Q : Value → Shared → Prop) (E : Value → Shared → Prop), Q (.int (g i j) s.toks) { s with toks := s.toks + 1 } → wpAny (model X.prog X.w) X.A (f (.int i t) (.int j u)) Q E s) :
    OpR X f (rI0 fun i j => .int (g i j)) := by
  intro pins s σ H x y v u Q I rx ry h
  obtain ⟨i, j, rfl, rfl, q⟩ := h
  obtain ⟨t, rfl⟩ := rx
  obtain ⟨t', rfl⟩ := ry
  exact rule i j t t' s _ _ ⟨.int (g i j), H, I.tok _, ⟨_, rfl⟩, q⟩
theorem opB0 {f : Value → Value → Sem Value} {g : Int → Int → Bool}
    (rule : ∀ (i j : Int) (t u : Tok) (s : Shared) (Q : Value → Shared → Prop) (E : Value → Shared → Prop), Q (.bool (g i j)) s → wpAny (model X.prog X.w) X.A (f (.int i t) (.int j u)) Q E s) :
    OpR X f (rI0 fun i j => .bl (g i j)) := by
  intro pins s σ H x y v u Q I rx ry h
  obtain ⟨i, j, rfl, rfl, q⟩ := h
  obtain ⟨t, rfl⟩ := rx
  obtain ⟨t', rfl⟩ := ry
  exact rule i j t t' s _ _ ⟨.bl (g i j), H, I, rfl, q⟩

def CDiv (i j : Int) : Prop := 0 < j ∧ j < 1073741824
def CMul (i j : Int) : Prop := (-(2 ^ 64) < i ∧ i < 2 ^ 64) ∨ (-(2 ^ 64) < j ∧ j < 2 ^ 64)
theorem CMul.ok {i j : Int} (h : CMul i j) : IntMulOk i j := by
  rcases h with ⟨h1, h2⟩ | ⟨h1, h2⟩
  · exact .of_left (intBits_le_64 h1 h2)
  · exact .of_right (intBits_le_64 h1 h2)

theorem op_add : OpR X (binaryOp .Add) (rI0 fun i j => .int (i + j)) := opI0 fun _ _ _ _ _ _ _ q => add_int q
theorem op_sub : OpR X (binaryOp .Sub) (rI0 fun i j => .int (i - j)) := opI0 fun _ _ _ _ _ _ _ q => sub_int q
theorem op_mul : OpR X (binaryOp .Mult) (rI CMul fun i j => .int (i * j)) := opI fun _ _ _ _ _ _ _ hc q => mul_int q hc.ok
/-- // by a positive divisor -/
theorem op_fdiv : OpR X (binaryOp .FloorDiv) (rI CDiv fun i j => .int (i / j)) := opI fun i j _ _ _ _ _ hc q => by
  have h1 : (0 : Int) < j := hc.1
  have h2 : j < 1073741824 := hc.2
  exact floordiv_int (by omega) (by rw [Int.fdiv_eq_ediv_of_nonneg i (by omega)]; exact q) (.inl (PyProof.noPylong_small (by omega)))
/-- % by a positive divisor of any size -/
theorem op_mod : OpR X (binaryOp .Mod) (rI (fun _ j => 0 < j) fun i j => .int (i % j)) := opI fun i j _ _ _ _ _ hc q => by
  have h1 : (0 : Int) < j := hc
  exact mod_int' (by omega) (by rw [Int.fmod_eq_emod_of_nonneg i (by omega)]; exact q)

theorem unI {f : Value → Sem Value} {g : Int → Int}
    (rule : ∀ (i : Int) (t : Tok) (s : Shared) (Q : Value → Shared → Prop) (E : Value → Shared → Prop), Q (.int (g i) s.toks) { s with toks := s.toks + 1 } → wpAny (model X.prog X.w) X.A (f (.int i t)) Q E s) :
    UnR X f (rU fun i => .int (g i)) := by
  intro pins s σ H x v Q I rx h
  obtain ⟨i, rfl, q⟩ := h
  obtain ⟨t, rfl⟩ := rx
  exact rule i t s _ _ ⟨.int (g i), H, I.tok _, ⟨_, rfl⟩, q⟩
theorem un_neg : UnR X (unaryOp .USub) (rU fun i => .int (-i)) := unI fun _ _ _ _ _ q => neg_int q

/-! ### bools among ints: n += (a < b) -/
end

/-! ### comparisons -/
/-- the scalars that == tells apart as data does -/
def scal : V → V → Bool
  | .non, .non => true | .non, .int _ => true | .int _, .non => true | .non, .bl _ => true | .bl _, .non => true | .non, .str _ => true | .str _, .non => true
  | .int _, .int _ => true | .bl _, .bl _ => true | .str _, .str _ => true | .byt _, .byt _ => true
  | .int _, .str _ => true | .str _, .int _ => true | .bl _, .str _ => true | .str _, .bl _ => true
  | _, _ => false
def rEq : R2 := fun x y H Q => scal x y = true ∧ Q (.bl (decide (x = y))) H
def rNe : R2 := fun x y H Q => scal x y = true ∧ Q (.bl (!decide (x = y))) H

theorem dec_int {i j : Int} : decide (V.int i = V.int j) = (i == j) := by
  rw [Bool.eq_iff_iff]
  simp
theorem dec_bl {i j : Bool} : decide (V.bl i = V.bl j) = (i == j) := by
  rw [Bool.eq_iff_iff]
  simp
theorem dec_str {i j : Str} : decide (V.str i = V.str j) = (i == j) := by
  rw [Bool.eq_iff_iff]
  simp
theorem dec_byt {i j : Array UInt8} : decide (V.byt i = V.byt j) = (i.toList == j.toList) := by
  rw [Bool.eq_iff_iff]
  cases i
  cases j
  simp

section
variable {X : Cx} {a b c : Expr} {ta tb tc : TE} {pos : Pos}
theorem fin_bl {pins : List (Addr × Obj)} {σ : St} {H : Hp} {s : Shared} {Q : VK} {k k' : Bool} (I : Inv X pins σ H s) (q : Q (.bl k) H) (e : k = k') : EP X pins σ Q (.bool k') s := by
  subst e
  exact ⟨.bl k, H, I, rfl, q⟩
theorem op_eq : OpR X (compareOp .Eq) rEq := by
  intro pins s σ H x y v u Q I rx ry h
  obtain ⟨hs, q⟩ := h
  cases x with
  | non =>
    cases rx
    cases y with
    | non => cases ry; exact PySem.EqNone.eq_none_none (fin_bl I q (by simp))
    | bl j => cases ry; exact PySem.EqNone.eq_none_bool (fin_bl I q (by simp))
    | int j => obtain ⟨t', rfl⟩ := ry; exact PySem.EqNone.eq_none_int (fin_bl I q (by simp))
    | str j => obtain ⟨t', rfl⟩ := ry; exact PySem.EqNone.eq_none_str (fin_bl I q (by simp))
    | _ => exact absurd (show false = true from hs) Bool.false_ne_true
  | bl i =>
    cases rx
    cases y with
    | non => cases ry; exact PySem.EqNone.eq_bool_none (fin_bl I q (by simp))
    | bl j => cases ry; exact eq_bool (fin_bl I q dec_bl)
    | str j => obtain ⟨t', rfl⟩ := ry; exact PySem.EqMixed.eq_bool_str (fin_bl I q (by simp))
    | _ => exact absurd (show false = true from hs) Bool.false_ne_true
  | int i =>
    obtain ⟨t, rfl⟩ := rx
    cases y with
    | non => cases ry; exact PySem.EqNone.eq_int_none (fin_bl I q (by simp))
    | int j => obtain ⟨t', rfl⟩ := ry; exact eq_int (fin_bl I q dec_int)
    | str j => obtain ⟨t', rfl⟩ := ry; exact PySem.EqMixed.eq_int_str (fin_bl I q (by simp))
    | _ => exact absurd (show false = true from hs) Bool.false_ne_true
  | str i =>
    obtain ⟨t, rfl⟩ := rx
    cases y with
    | non => cases ry; exact PySem.EqNone.eq_str_none (fin_bl I q (by simp))
    | bl j => cases ry; exact PySem.EqMixed.eq_str_bool (fin_bl I q (by simp))
    | int j => obtain ⟨t', rfl⟩ := ry; exact PySem.EqMixed.eq_str_int (fin_bl I q (by simp))
    | str j => obtain ⟨t', rfl⟩ := ry; exact eq_str (fin_bl I q dec_str)
    | _ => exact absurd (show false = true from hs) Bool.false_ne_true
  | byt i =>
    obtain ⟨t, rfl⟩ := rx
    cases y with
    | byt j => obtain ⟨t', rfl⟩ := ry; exact PySem.W.eq_bytes (fin_bl I q dec_byt)
    | _ => exact absurd (show false = true from hs) Bool.false_ne_true
  | _ => cases y <;> exact absurd (show false = true from hs) Bool.false_ne_true
theorem op_ne : OpR X (compareOp .NotEq) rNe := by
  intro pins s σ H x y v u Q I rx ry h
  obtain ⟨hs, q⟩ := h
  cases x with
  | non =>
    cases rx
    cases y with
    | non => cases ry; exact PySem.EqNone.ne_none_none (fin_bl I q (by simp))
    | bl j => cases ry; exact PySem.EqNone.ne_none_bool (fin_bl I q (by simp))
    | int j => obtain ⟨t', rfl⟩ := ry; exact PySem.EqNone.ne_none_int (fin_bl I q (by simp))
    | str j => obtain ⟨t', rfl⟩ := ry; exact PySem.EqNone.ne_none_str (fin_bl I q (by simp))
    | _ => exact absurd (show false = true from hs) Bool.false_ne_true
  | bl i =>
    cases rx
    cases y with
    | non => cases ry; exact PySem.EqNone.ne_bool_none (fin_bl I q (by simp))
    | bl j => cases ry; exact ne_bool (fin_bl I q (congrArg not dec_bl))
    | str j => obtain ⟨t', rfl⟩ := ry; exact PySem.EqMixed.ne_bool_str (fin_bl I q (by simp))
    | _ => exact absurd (show false = true from hs) Bool.false_ne_true
  | int i =>
    obtain ⟨t, rfl⟩ := rx
    cases y with
    | non => cases ry; exact PySem.EqNone.ne_int_none (fin_bl I q (by simp))
    | int j => obtain ⟨t', rfl⟩ := ry; exact ne_int (fin_bl I q (congrArg not dec_int))
    | str j => obtain ⟨t', rfl⟩ := ry; exact PySem.EqMixed.ne_int_str (fin_bl I q (by simp))
    | _ => exact absurd (show false = true from hs) Bool.false_ne_true
  | str i =>
    obtain ⟨t, rfl⟩ := rx
    cases y with
    | non => cases ry; exact PySem.EqNone.ne_str_none (fin_bl I q (by simp))
    | bl j => cases ry; exact PySem.EqMixed.ne_str_bool (fin_bl I q (by simp))
    | int j => obtain ⟨t', rfl⟩ := ry; exact PySem.EqMixed.ne_str_int (fin_bl I q (by simp))
    | str j => obtain ⟨t', rfl⟩ := ry; exact ne_str (fin_bl I q (congrArg not dec_str))
    | _ => exact absurd (show false = true from hs) Bool.false_ne_true
  | byt i =>
    obtain ⟨t, rfl⟩ := rx
    cases y with
    | byt j => obtain ⟨t', rfl⟩ := ry; exact PySem.W.ne_bytes (fin_bl I q (congrArg not dec_byt))
    | _ => exact absurd (show false = true from hs) Bool.false_ne_true
  | _ => cases y <;> exact absurd (show false = true from hs) Bool.false_ne_true

theorem op_lt : OpR X (compareOp .Lt) (rI0 fun i j => .bl (decide (i < j))) := opB0 fun _ _ _ _ _ _ _ q => lt_int q
theorem op_le : OpR X (compareOp .LtE) (rI0 fun i j => .bl (decide (i ≤ j))) := opB0 fun _ _ _ _ _ _ _ q => le_int q
theorem op_gt : OpR X (compareOp .Gt) (rI0 fun i j => .bl (decide (j < i))) := opB0 fun _ _ _ _ _ _ _ q => gt_int q
theorem op_ge : OpR X (compareOp .GtE) (rI0 fun i j => .bl (decide (j ≤ i))) := opB0 fun _ _ _ _ _ _ _ q => ge_int q

theorem nomark (b : Expr) {op : CmpOp} (h : op ≠ .In := by decide) (h2 : op ≠ .NotIn := by decide) : behindInMarks op b = false := by
  have e1 : (op == CmpOp.In) = false := by cases op <;> first | rfl | exact absurd rfl h
  have e2 : (op == CmpOp.NotIn) = false := by cases op <;> first | rfl | exact absurd rfl h2
  cases b <;> simp [behindInMarks, e1, e2]
/-- a comparison as a value; hm: nomark b, or (for in, not in) by with_unfolding_all rfl -/
theorem pe_cmpR {op : CmpOp} {r : R2} (ho : OpR X (compareOp op) r) (ha : PE X a ta) (hb : PE X b tb) (hm : behindInMarks op b = false) : PE X (.Compare a [op] [b] pos) (tOp r ta tb) := by
  intro pins s σ H Q I h
  exact wpAny_Compare1 (binT ha hb I h fun v u s2 x y H2 I2 rx ry q => ho pins s2 σ H2 x y v u Q I2 rx ry q) hm
/-- a reading of a value as a test -/
def tTest (t : TE) : TT := fun σ H Q => t σ H fun x H' => ∃ k, x = .bl k ∧ Q k H'
theorem pt_cmpR {op : CmpOp} {r : R2} (ho : OpR X (compareOp op) r) (ha : PE X a ta) (hb : PE X b tb) (hm : behindInMarks op b = false) : PT X (.Compare a [op] [b] pos) (tTest (tOp r ta tb)) := by
  intro pins s σ H Q I h
  refine wpAny_isTrue_Compare1 (thn (ha pins s σ H _ I h) fun v s1 ⟨x, H1, I1, r1, q1⟩ => thn (hb pins s1 σ H1 _ I1 q1) fun u s2 ⟨y, H2, I2, r2, q2⟩ =>
    thn (ho pins s2 σ H2 x y v u _ I2 r1 r2 q2) fun c s3 ⟨z, H3, I3, r3, k, e, q3⟩ => ?_) hm
  subst e
  cases r3
  exact wpAny_truthy_bool ⟨H3, I3, q3⟩

/-! ### truth -/
theorem line63 : (sizeLine : Nat) < 2 ^ 63 := by rw [sizeLine_eq]; decide

/-! ### strs and bytes -/

/-! ### scalar builtins, by CallR -/
theorem vals1 {x : V} {us : List Value} (r : Vals [x] us) : ∃ u, us = [u] ∧ RelV x u := by
  cases r with
  | cons r1 r2 => cases r2; exact ⟨_, rfl, r1⟩
end
end L2

namespace L2
open PySem PySem.Spec PyProof.Rows

/-! ### an instance, its attributes a map -/
structure ObjM (h : Heap) (x dx C : Addr) (mA : Str → Option Value) : Prop where
  obj : h.get? x = some (PySem.W.instObj C dx)
  ns : h.Ns1 dx mA
  ne : dx ≠ x

theorem lookIn_ns {h : Heap} {dx : Addr} {mA : Str → Option Value} (n : h.Ns1 dx mA) : ∃ od, h.get? dx = some od ∧ ∀ name, PySem.W.lookIn name od = some (mA name) := by
  obtain ⟨o, es, ep, ho, hd, hk, _, hm⟩ := n
  refine ⟨o, ho, fun name => ?_⟩
  have e := hm name
  unfold nsFind findBy at e
  rw [← Array.find?_toList] at e
  unfold PySem.W.lookIn
  rw [hd]
  dsimp only
  split
  · rename_i y q
    rw [q] at e
    exact congrArg some e
  · rename_i q
    rw [q] at e
    have a : es.toList.any (·.refKey) = false := by
      rw [List.any_eq_false]
      intro y hy
      obtain ⟨z, t, hkey⟩ := hk y (Array.mem_toList_iff.mp hy)
      simp [DictEntry.refKey, hkey]
    have a' : ¬ es.toList.any (·.refKey) = true := by rw [a]; exact Bool.false_ne_true
    rw [if_neg a']
    exact congrArg some e

theorem ObjM.look {h : Heap} {x dx C : Addr} {mA : Str → Option Value} (I : ObjM h x dx C mA) : ∃ od, PySem.W.InstAt h x (PySem.W.instObj C dx) C (some od) ∧ ∀ name, PySem.W.lookIn name od = some (mA name) :=
  let ⟨od, ho, hl⟩ := lookIn_ns I.ns
  ⟨od, ⟨I.obj, rfl, rfl, ho⟩, hl⟩

section
variable {prog : Program} {w : World} {A : Around} {E : Value → Shared → Prop} {s : Shared} {K : PySem.W.Frag} {x dx C f : Addr} {mA : Str → Option Value} {name : Str} {v : Value}

theorem get_map {expr : Bool} {Q : Value → Shared → Prop} (X : K.In s.heap) (I : ObjM s.heap x dx C mA) (hg : PySem.W.plainGet K C name = true) (hh : PySem.W.hasDictIn K C = true)
    (ha : PySem.W.findIn K (.ref C) name = some none) (hv : mA name = some v) (hv' : PySem.W.handedIn v = true) (h : Q v { s with toks := s.toks + 1 }) :
    wpAny (model prog w) A (getAttr (.ref x) name expr) Q E s := by
  obtain ⟨od, J, hl⟩ := I.look
  exact PySem.W.get_value X J (PySem.W.plainGet_of hg).1 (PySem.W.findObj_own hh ha rfl (by rw [hl, hv])) hv' h

theorem get_meth {pl : Sem Bool} {Q : Value × List Value → Shared → Prop} (X : K.In s.heap) (I : ObjM s.heap x dx C mA) (hg : PySem.W.plainGet K C name = true)
    (hf : PySem.W.findIn K (.ref C) name = some (some (.ref f))) (ht : PySem.W.isFn K (.ref f) = true) (hv : mA name = none) (h : Q (.ref f, [.ref x]) s) :
    wpAny (model prog w) A (getMethod (.ref x) name pl) Q E s := by
  obtain ⟨od, J, hl⟩ := I.look
  exact PySem.W.method_fn X J (PySem.W.plainGet_of hg).1 (PySem.W.plainGet_of hg).2 hf (beq_iff_eq.mp ht) (by show (PySem.W.lookIn name od).map (·.isSome) = some false; rw [hl, hv]; rfl) h

theorem set_map {ns : List Str} {Q : Unit → Shared → Prop} (X : K.In s.heap) (I : ObjM s.heap x dx C mA)
    (hs : PySem.W.findIn K (.ref C) "__setattr__" = some (some (.builtin "object.__setattr__"))) (hp : PySem.W.plainOver K C = true) (ht : PySem.W.takerIn K C name = some none) (hh : PySem.W.hasDictIn K C = true)
    (hw : PySem.Within mA ns) (hsz : ns.length ≤ sizeLine)
    (h : ∀ h', ObjM h' x dx C (fun y => if y = name then some v else mA y) → Heap.SameBut dx s.heap h' → Q () { s with heap := h', toks := s.toks + 2 }) :
    wpAny (model prog w) A (setAttr (.ref x) name v) Q E s := by
  obtain ⟨od, J, hl⟩ := I.look
  refine PySem.W.set_plain X J hs (PySem.W.osa_open (s := { s with toks := s.toks + 1 }) (r := none) X J hp ht fun b => ?_)
  obtain ⟨cd, hc, hd'⟩ := PySem.W.any_some hh
  have hx : s.heap.get? x = some ⟨.ref C, some dx, .plain, #[]⟩ := I.obj
  refine wpAny_bind (wpAny_pure (wpAny_bind (wpAny_bind (wpAny_loadPart hx (wpAny_bind (PySem.W.Looks.here (s := { s with toks := s.toks + 1 }) (PySem.W.looks_clsIn X hc) ?_))))))
  rw [hd']
  refine wpAny_pure (a := some dx) (wpAny_bind (wpAny_pure (wpAny_bind ?_)))
  refine wpAny_nsSet1 (s := { s with toks := s.toks + 1 }) I.ns fun h' hn2 hs2 => ?_
  obtain ⟨oD, esD, epD, hoD, hdD, hcD⟩ := hn2.count (PySem.Within.cons name v hw)
  refine wpAny_bind (wpAny_lookBehind hoD (by rw [hdD]; exact pastItsLine_dict (Nat.le_trans hcD (by rw [List.length_cons]; omega))) ?_)
  exact wpAny_pure (h _ ⟨(hs2.2 _ (Ne.symm I.ne)).trans I.obj, hn2, I.ne⟩ hs2)

/-- C(..): the dict at the heap's end, the instance behind it; then its __init__ -/
theorem make_map {R : Result → Shared → Prop} {vs : List Value} {kw : List (Str × Value)} (X : K.In s.heap) (hm : PySem.W.makesIn K C = true)
    (hi : PySem.W.findIn K (.ref C) "__init__" = some (some (.ref f))) (hf : PySem.W.typeIn K (.ref f) = some (.type "function"))
    (h : codeAny (model prog w) (A.under (.builtin "type.__call__" ⟨.ref C :: vs, kw⟩)) (.call (.ref f) ⟨.ref (s.heap.objs.size + 1) :: vs, kw⟩) (PySem.W.InitBack (s.heap.objs.size + 1) R)
      { s with heap := (s.heap.push PySem.W.emptyDict).push (PySem.W.instObj C s.heap.objs.size) }) :
    codeAny (model prog w) A (.call (.ref C) ⟨vs, kw⟩) R s := by
  obtain ⟨hh, g, d, t, os⟩ := s
  exact PySem.W.make_core (PySem.W.makes_of X hm) (PySem.W.looks_findIn X hi) (fun self => PySem.W.bind_fn X self hf) (.inl rfl) h
end

/-! ### the attributes as a list of pairs -/
def putF (f : Str) (v : V) : List (Str × V) → List (Str × V)
  | [] => [(f, v)]
  | (g, x) :: r => if g = f then (g, v) :: r else (g, x) :: putF f v r
theorem lookup_putF (f g : Str) (v : V) : ∀ fs : List (Str × V), (putF f v fs).lookup g = if g = f then some v else fs.lookup g
  | [] => by
    show List.lookup g [(f, v)] = _
    by_cases h : g = f
    · have hb : (g == f) = true := beq_iff_eq.mpr h
      simp only [List.lookup, hb, if_pos h]
    · have hb : (g == f) = false := beq_eq_false_iff_ne.mpr h
      simp only [List.lookup, hb, if_neg h]
  | (k, x) :: r => by
    have ih := lookup_putF f g v r
    rw [show putF f v ((k, x) :: r) = (if k = f then (k, v) :: r else (k, x) :: putF f v r) from rfl]
    by_cases hk : k = f
    · rw [if_pos hk]
      by_cases h : g = k
      · have hb : (g == k) = true := beq_iff_eq.mpr h
        simp only [List.lookup, hb, if_pos (h.trans hk)]
      · have hb : (g == k) = false := beq_eq_false_iff_ne.mpr h
        simp only [List.lookup, hb, if_neg (fun e : g = f => h (e.trans hk.symm))]
    · rw [if_neg hk]
      by_cases h : g = k
      · have hb : (g == k) = true := beq_iff_eq.mpr h
        simp only [List.lookup, hb, if_neg (fun e : g = f => hk (h.symm.trans e))]
      · have hb : (g == k) = false := beq_eq_false_iff_ne.mpr h
        simp only [List.lookup, hb]
        exact ih
theorem keys_putF (f : Str) (v : V) : ∀ fs : List (Str × V), f ∈ (putF f v fs).map (·.1) ∧ ∀ g, g ∈ fs.map (·.1) → g ∈ (putF f v fs).map (·.1)
  | [] => ⟨by simp [putF], fun g h => by simp at h⟩
  | (k, x) :: r => by
    obtain ⟨i1, i2⟩ := keys_putF f v r
    rw [show putF f v ((k, x) :: r) = (if k = f then (k, v) :: r else (k, x) :: putF f v r) from rfl]
    by_cases hk : k = f
    · rw [if_pos hk]
      subst hk
      exact ⟨by simp, fun g h => by simpa using h⟩
    · rw [if_neg hk]
      refine ⟨?_, fun g h => ?_⟩
      · rw [List.map_cons]
        exact List.mem_cons_of_mem _ i1
      · rw [List.map_cons] at h ⊢
        rcases List.mem_cons.mp h with e | e
        · exact List.mem_cons.mpr (.inl e)
        · exact List.mem_cons_of_mem _ (i2 g e)
theorem length_putF (f : Str) (v : V) : ∀ fs : List (Str × V), (putF f v fs).length ≤ fs.length + 1
  | [] => by simp [putF]
  | (k, x) :: r => by
    have ih := length_putF f v r
    rw [show putF f v ((k, x) :: r) = (if k = f then (k, v) :: r else (k, x) :: putF f v r) from rfl]
    by_cases hk : k = f
    · rw [if_pos hk, List.length_cons, List.length_cons]; omega
    · rw [if_neg hk, List.length_cons, List.length_cons]; omega

theorem RelO.some_of {v : V} {o : Option Value} (r : RelO (some v) o) : ∃ u, o = some u ∧ RelV v u := by
  cases o with
  | none => exact (show False from r).elim
  | some u => exact ⟨u, rfl, r⟩
theorem RelO.none_of {o : Option Value} (r : RelO none o) : o = none := by
  cases o with
  | none => rfl
  | some u => exact (show False from r).elim
theorem handed_of {v : V} {u : Value} (r : RelV v u) : PySem.W.handedIn u = true := by
  cases v with
  | non => cases (show u = Value.none from r); rfl
  | bl b => cases (show u = Value.bool b from r); rfl
  | int i => obtain ⟨t, e⟩ := (show ∃ t, u = Value.int i t from r); cases e; rfl
  | str x => obtain ⟨t, e⟩ := (show ∃ t, u = Value.str x t from r); cases e; rfl
  | byt b => obtain ⟨t, e⟩ := (show ∃ t, u = Value.bytes b t from r); cases e; rfl
  | flt b => obtain ⟨t, e⟩ := (show ∃ t, u = Value.float b t from r); cases e; rfl
  | ref a => cases (show u = Value.ref a from r); rfl
  | ty n => cases (show u = Value.type n from r); rfl

section
variable {P : Program} {w : World} {H H' : Hp} {h h' : Heap} {a C dx : Addr} {fs fs' : List (Str × V)}
theorem ins_get (hok : HOk P w H h) (e : H a = some (.ins C dx fs)) : ∃ mA, ObjM h a dx C mA ∧ (∀ f, RelO (fs.lookup f) (mA f)) ∧ PySem.Within mA (fs.map (·.1)) ∧ fs.length ≤ 1000 ∧ H dx = some (.own a) := by
  obtain ⟨d, z, ne, ob, mA, n, r, q⟩ := (show ObjOk P w H h a (.ins C dx fs) from hok a _ e)
  exact ⟨mA, ⟨ob, n, ne⟩, r, q, z, d⟩
end

/-! ### what of the text a class must have -/
structure Cls (K : PySem.W.Frag) (C : Addr) : Prop where
  pg : PySem.W.plainGet K C Str.empty = true
  hd : PySem.W.hasDictIn K C = true
  po : PySem.W.plainOver K C = true
  sa : PySem.W.findIn K (.ref C) "__setattr__" = some (some (.builtin "object.__setattr__"))
theorem Cls.get {K : PySem.W.Frag} {C : Addr} (c : Cls K C) (f : Str) : PySem.W.plainGet K C f = true := c.pg
/-- no class of it has the name -/
def NoAttr (K : PySem.W.Frag) (C : Addr) (f : Str) : Prop := PySem.W.findIn K (.ref C) f = some none
theorem NoAttr.taker {K : PySem.W.Frag} {C : Addr} {f : Str} (n : NoAttr K C f) : PySem.W.takerIn K C f = some none := by
  unfold PySem.W.takerIn
  rw [show PySem.W.findIn K (.ref C) f = some none from n]
  rfl
/-- a method: a plain def of the class or of one above it -/
structure Meth (K : PySem.W.Frag) (C : Addr) (m : Str) (f : Addr) : Prop where
  at_ : PySem.W.findIn K (.ref C) m = some (some (.ref f))
  fn : PySem.W.isFn K (.ref f) = true
  kp : PySem.W.keepIn K (.ref f) = true

section
variable {X : Cx} {pins : List (Addr × Obj)} {σ : St} {H : Hp} {s : Shared} {a C dx : Addr} {fs : List (Str × V)} {f : Str} {v : V} {A : Around} {E : Value → Shared → Prop}

theorem getattr_ok {b : Bool} {Q : Value → Shared → Prop} (I : Inv X pins σ H s) (e : H a = some (.ins C dx fs)) (c : Cls X.K C) (n : NoAttr X.K C f) (l : fs.lookup f = some v)
    (h : ∀ u s', Inv X pins σ H s' → RelV v u → Q u s') : wpAny (model X.prog X.w) A (getAttr (.ref a) f b) Q E s := by
  obtain ⟨mA, O, r, _, _, _⟩ := ins_get I.hok e
  obtain ⟨u, hu, ru⟩ := RelO.some_of (v := v) (o := mA f) (by rw [← l]; exact r f)
  exact get_map I.kIn O (c.get f) c.hd n hu (handed_of ru) (h u _ (I.tok _) ru)

theorem getmeth_ok {m : Str} {g : Addr} {pl : Sem Bool} {Q : Value × List Value → Shared → Prop} (I : Inv X pins σ H s) (e : H a = some (.ins C dx fs)) (c : Cls X.K C) (k : Meth X.K C m g) (l : fs.lookup m = none)
    (h : Q (.ref g, [.ref a]) s) : wpAny (model X.prog X.w) A (getMethod (.ref a) m pl) Q E s := by
  obtain ⟨mA, O, r, _, _, _⟩ := ins_get I.hok e
  have hn : mA m = none := RelO.none_of (by rw [← l]; exact r m)
  exact get_meth I.kIn O (c.get m) k.at_ k.fn hn h

theorem setattr_ok {y : V} {u : Value} {Q : Unit → Shared → Prop} (I : Inv X pins σ H s) (e : H a = some (.ins C dx fs)) (c : Cls X.K C) (n : NoAttr X.K C f) (hl : fs.length < 1000) (ry : RelV y u)
    (h : ∀ s', Inv X pins σ (upd H a (.ins C dx (putF f y fs))) s' → Q () s') : wpAny (model X.prog X.w) A (setAttr (.ref a) f u) Q E s := by
  obtain ⟨mA, O, r, wi, _, ho⟩ := ins_get I.hok e
  have hz : (fs.map (·.1)).length ≤ sizeLine := by rw [List.length_map, sizeLine_eq]; omega
  refine set_map I.kIn O c.sa c.po n.taker c.hd wi hz fun h' O' sb => h _ ?_
  have hd : ∃ o, h'.get? dx = some o := let ⟨o, _, _, e', _⟩ := O'.ns; ⟨o, e'⟩
  refine I.write (x := a) (e := dx) (by rw [e]; exact True.intro) (.inr ho) (fun b q hb z => (sb.2 b hb).trans z) hd ?_
  refine ⟨by rw [upd_ne O.ne]; exact ho, ?_, O.ne, O'.obj, _, O'.ns, fun g => ?_, fun g hg => ?_⟩
  · have := length_putF f y fs; omega
  · show RelO ((putF f y fs).lookup g) (if g = f then some u else mA g)
    rw [lookup_putF]
    by_cases q : g = f
    · rw [if_pos q, if_pos q]; exact ry
    · rw [if_neg q, if_neg q]; exact r g
  · by_cases q : g = f
    · rw [q]; exact (keys_putF f y fs).1
    · refine (keys_putF f y fs).2 g (wi g fun z => hg ?_)
      show (if g = f then some u else mA g) = none
      rw [if_neg q]; exact z

/-- a new instance, tracked, without attributes -/
theorem Inv.made (I : Inv X pins σ H s) : Inv X pins σ (upd (upd H s.heap.objs.size (.own (s.heap.objs.size + 1))) (s.heap.objs.size + 1) (.ins C s.heap.objs.size []))
    { s with heap := (s.heap.push PySem.W.emptyDict).push (PySem.W.instObj C s.heap.objs.size) } := by
  have e1 : (s.heap.push PySem.W.emptyDict).get? s.heap.objs.size = some PySem.W.emptyDict := Heap.get?_push_size s.heap rfl
  have e2 : ((s.heap.push PySem.W.emptyDict).push (PySem.W.instObj C s.heap.objs.size)).get? (s.heap.objs.size + 1) = some (PySem.W.instObj C s.heap.objs.size) := by
    have := Heap.get?_push_size (s.heap.push PySem.W.emptyDict) (o := PySem.W.instObj C s.heap.objs.size) rfl
    rwa [Heap.size_push] at this
  have e3 : (s.heap.push PySem.W.emptyDict).Ns s.heap.objs.size (fun _ => none) := ⟨PySem.W.emptyDict, #[], _, e1, rfl, (fun e he => absurd he (by simp)), fun _ => rfl⟩
  have I1 := I.laid (a := s.heap.objs.size) (o := .own (s.heap.objs.size + 1)) (h' := s.heap.push PySem.W.emptyDict) (t' := s.toks) (fun b u q => Heap.get?_push_of_some _ q) (Nat.le_refl _) ⟨_, e1⟩
  refine I1.laid (a := s.heap.objs.size + 1) (o := .ins C s.heap.objs.size []) (t' := s.toks) (fun b u q => Heap.get?_push_of_some _ q) (Nat.le_of_eq (Heap.size_push _ _)) ?_
  have ne : s.heap.objs.size ≠ s.heap.objs.size + 1 := Nat.ne_of_lt (Nat.lt_succ_self _)
  refine ⟨by rw [upd_ne ne, upd_same], Nat.zero_le _, ne, e2, fun _ => none, (Heap.Ns1.of_empty e3).at fun o q => Heap.get?_push_of_some _ q, fun _ => True.intro, fun y hy => absurd rfl hy⟩

/-- e.f where nothing but the object is asked: through attributeBase (super) and the last hold -/
theorem attr_of {prog : Program} {w : World} {env : Env} {e : Expr} {f : Str} {pos : Pos} {s : Shared} {Q : Value → Shared → Prop} (hb : attributeBase e f env (eval e env) = eval e env)
    (h : wpAny (model prog w) A (eval e env) (fun o s₁ => wpAny (model prog w) A (getAttr o f true) Q E s₁) E s) : wpAny (model prog w) A (eval (.Attribute e f pos) env) Q E s :=
  Attribute_any_ h (by rw [arm_eval_Attribute, hb])
end

/-! ### readings and rules -/
/-- e.f, an attribute of the instance -/
def tFld (K : PySem.W.Frag) (ta : TE) (f : Str) : TE := fun σ H Q => ta σ H fun x H1 => ∃ a C dx fs v, x = .ref a ∧ H1 a = some (.ins C dx fs) ∧ Cls K C ∧ NoAttr K C f ∧ fs.lookup f = some v ∧ Q v H1
/-- e.f = value -/
def sFld (K : PySem.W.Frag) (ta tv : TE) (f : Str) : TS := fun D σ H => tv σ H fun y H1 => ta σ H1 fun x H2 => ∃ a C dx fs, x = .ref a ∧ H2 a = some (.ins C dx fs) ∧ Cls K C ∧ NoAttr K C f ∧ fs.length < 1000 ∧
  D.nx σ (upd H2 a (.ins C dx (putF f y fs)))

section
variable {X : Cx} {o e value : Expr} {f : Str} {pos pos' tpos : Pos} {ta tv : TE}
theorem pe_fld (he : PE X e ta) (hb : attributeBase e f X.env (eval e X.env) = eval e X.env) : PE X (.Attribute e f pos) (tFld X.K ta f) := by
  intro pins s σ H Q I h
  refine attr_of hb (thn (he pins s σ H _ I h) fun u s1 ⟨x, H1, I1, rx, a, C, dx, fs, v, ex, ea, c, n, l, q⟩ => ?_)
  subst ex
  obtain rfl : u = Value.ref a := rx
  exact getattr_ok I1 ea c n l fun u' s2 I2 ru => ⟨v, H1, I2, ru, q⟩
theorem ps_fld (ha : PE X o ta) (hv : PE X value tv) (hs : swapsWith value (some (.Attribute o f pos')) pos.line X.env = pure false) : PS X (.Assign [.Attribute o f pos'] value pos) (sFld X.K ta tv f) := by
  intro pins s σ H D I h
  refine plainObj_wpAny_Assign_Attribute (thn (hv pins s σ H _ I h) fun u s1 ⟨y, H1, I1, ry, q⟩ => thn (ha pins s1 σ H1 _ I1 q) fun ov s2 ⟨x, H2, I2, rx, a, C, dx, fs, ex, ea, c, n, l, q2⟩ => ?_) hs
  subst ex
  obtain rfl : ov = Value.ref a := rx
  exact setattr_ok I2 ea c n l ry fun s3 I3 => ⟨σ, _, I3, q2⟩

end

/-! ### isinstance -/
section
variable {X : Cx} {pins : List (Addr × Obj)} {σ : St} {H : Hp} {s : Shared} {A : Around} {E : Value → Shared → Prop} {Q : Value → Shared → Prop} {c : Value} {b : Bool}
end
end L2

namespace L2
open PySem PySem.Spec PyProof.Rows

/-! ### room -/
structure Room (k : Nat) (A : Around) : Prop where
  hd : A.handled = none
  dp : A.depth + 3 * k + 5 < recursionLimit
  un : A.units + 16 * k + 200 < cLine
theorem Room.mono {j k : Nat} {A : Around} (r : Room k A) (h : j ≤ k) : Room j A := ⟨r.hd, by have := r.dp; omega, by have := r.un; omega⟩
theorem Room.deeper {k : Nat} {A : Around} (r : Room (k + 1) A) (env : Env) : Room k (A.deeper env) :=
  ⟨r.hd, by have := r.dp; show A.depth + 1 + 3 * k + 5 < _; omega, by have := r.un; show A.units + 3 + 16 * k + 200 < _; omega⟩
theorem make_depth {A : Around} {C : Addr} {us : List Value} {kw : List (Str × Value)} : (A.under (.builtin "type.__call__" ⟨.ref C :: us, kw⟩)).depth = A.depth + 1 := by
  first | rfl | simp [Around.under, Code.weight, Code.isCreation, Code.isGuard, Code.isCaller, Code.frames, Code.isFrame, guardIds]
theorem make_units {A : Around} {C : Addr} {us : List Value} {kw : List (Str × Value)} : (A.under (.builtin "type.__call__" ⟨.ref C :: us, kw⟩)).units = A.units + 1 := by
  first | rfl | simp [Around.under, Code.cUnits, Code.frames, Code.isFrame]
theorem Room.make {k : Nat} {A : Around} (r : Room (k + 1) A) (C : Addr) (us : List Value) (kw : List (Str × Value)) : Room k (A.under (.builtin "type.__call__" ⟨.ref C :: us, kw⟩)) :=
  ⟨r.hd, by have := r.dp; rw [make_depth]; omega, by have := r.un; rw [make_units]; omega⟩
theorem Room.depth {k : Nat} {A : Around} (r : Room k A) : A.depth < recursionLimit := by have := r.dp; omega
theorem Room.units {k : Nat} {A : Around} (r : Room k A) : A.units + 64 < cLine := by have := r.un; omega

/-! ### argument lists and displays -/
def tNil : TA := fun _ H Q => Q [] H
def tCons (ta : TE) (tr : TA) : TA := fun σ H Q => ta σ H fun x H1 => tr σ H1 fun xs H2 => Q (x :: xs) H2
section
variable {X : Cx} {e : Expr} {es : List Expr} {te : TE} {t : TA} {pos : Pos}
theorem pa_nil : PA X [] tNil := fun _ _ _ _ H Q I h => Calls.spliced_nil ⟨[], H, I, .nil, h⟩
theorem pa_cons (ha : PE X e te) (hr : PA X es t) (hs : starEach (e :: es) X.env = (false, eval e X.env) :: starEach es X.env := by rfl) : PA X (e :: es) (tCons te t) := by
  intro pos pins s σ H Q I h
  rw [hs]
  show wpAny _ _ (spliced ((false, eval e X.env) :: backTo pos (starEach es X.env))) _ _ s
  refine Calls.spliced_cons (thn (ha pins s σ H _ I h) fun u s1 ⟨x, H1, I1, r1, q1⟩ => ?_)
  exact thn (hr pos pins s1 σ H1 _ I1 q1) fun us s2 ⟨xs, H2, I2, r2, q2⟩ => ⟨x :: xs, H2, I2, .cons r1 r2, q2⟩

/-- a tuple, a list of written items -/
def tTup (t : TA) : TE := fun σ H Q => t σ H fun xs H1 => xs.length ≤ sizeLine ∧ ∀ p, H1 p = none → Q (.ref p) (upd H1 p (.tup xs))
def tLst (t : TA) : TE := fun σ H Q => t σ H fun xs H1 => xs.length ≤ sizeLine ∧ ∀ p, H1 p = none → Q (.ref p) (upd H1 p (.lst xs))
theorem pe_tup {x1} (h : PA X es t) : PE X (.Tuple es x1 pos) (tTup t) := by
  intro pins s σ H Q I hq
  refine wpAny_Tuple_spliced (thn (h pos pins s σ H _ I hq) fun us s1 ⟨xs, H1, I1, r, z, q⟩ => ⟨by rw [← r.length]; exact z, ?_⟩)
  have hf : H1 s1.heap.objs.size = none := I1.hok.fresh (Nat.le_refl _)
  refine ⟨.ref s1.heap.objs.size, upd H1 s1.heap.objs.size (.tup xs), I1.laid (t' := s1.toks) (fun b u e => Heap.get?_push_of_some _ e) (Nat.le_refl _) ?_, rfl, q _ hf⟩
  exact ⟨z, us, r, ⟨_, Heap.get?_push_size _ rfl, rfl, _, rfl⟩⟩
theorem pe_lst (h : PA X es t) : PE X (.List es pos) (tLst t) := by
  intro pins s σ H Q I hq
  refine wpAny_List_spliced (thn (h pos pins s σ H _ I hq) fun us s1 ⟨xs, H1, I1, r, z, q⟩ => ⟨by rw [← r.length]; exact z, ?_⟩)
  have hf : H1 s1.heap.objs.size = none := I1.hok.fresh (Nat.le_refl _)
  refine ⟨.ref s1.heap.objs.size, upd H1 s1.heap.objs.size (.lst xs), I1.laid (t' := s1.toks) (fun b u e => Heap.get?_push_of_some _ e) (Nat.le_refl _) ?_, rfl, q _ hf⟩
  exact ⟨z, us, 0, r, Heap.get?_push_size _ rfl⟩
end

/-! ### what a def promises -/
/-- a def's promise: the bound arguments in the parameters' order, the heap, the wanted end, the wanted exception -/
abbrev Sp := List V → Hp → VK → XK → Prop
/-- how an exception lies behind a call (file 08 gives it): the callers' frames, abstract heap and state ahead of the call, the wish, the exception, the state -/
abbrev CXT := List Env → Hp → Shared → XK → Value → Shared → Prop

/-- the state at a call -/
structure Env0 (P : Program) (w : World) (K : PySem.W.Frag) (mg : Str → Option Value) (base : Heap) (A : Around) (outer : List Env) (s : Shared) (H : Hp) : Prop where
  frames : A.frames = some outer
  mod : Mod K mg base
  bs : ∀ b o, base.get? b = some o → s.heap.get? b = some o ∧ H b = none
  bsz : base.objs.size ≤ s.heap.objs.size
  funs : s.heap.FunFrames base outer
  frf : ∀ b ∈ frs outer, H b = none
  hok : HOk P w H s.heap
  bare : AllBare s.gens
/-- a call's end -/
def CE (outer : List Env) (P : Program) (w : World) (H : Hp) (s : Shared) (Q : VK) (u : Value) (s' : Shared) : Prop :=
  ∃ v H', s'.os = s.os ∧ AllBare s'.gens ∧ Un (frs outer) [] H H' s.heap s'.heap ∧ HOk P w H' s'.heap ∧ RelV v u ∧ Q v H'
def CR (CX : CXT) (outer : List Env) (P : Program) (w : World) (H : Hp) (s : Shared) (Q : VK) (E : XK) (r : Result) (s' : Shared) : Prop :=
  match r with
  | .ok (.ret u) => CE outer P w H s Q u s'
  | .ok _ => False
  | .error e => CX outer H s E e s'
structure FnOk (P : Program) (w : World) (K : PySem.W.Frag) (mg : Str → Option Value) (base : Heap) (CX : CXT) (k : Nat) (f : Addr) (fd : FuncData) (ps : List Str) (sp : Sp) : Prop where
  len : ∀ vs H Q E, sp vs H Q E → vs.length = ps.length
  run : ∀ (A : Around) (outer : List Env) (s : Shared) (H : Hp) (args : Args) (us : List Value) (vs : List V) (Q : VK) (E : XK), Room k A → Env0 P w K mg base A outer s H → BindsTo s fd args (ps.zip us) → Vals vs us → sp vs H Q E →
    codeAny (model P w) A (.call (.ref f) args) (CR CX outer P w H s Q E) s

theorem Env0.make {P : Program} {w : World} {K : PySem.W.Frag} {mg : Str → Option Value} {base : Heap} {A : Around} {outer : List Env} {s : Shared} {H : Hp} (e : Env0 P w K mg base A outer s H) (C : Addr) (us : List Value) (kw : List (Str × Value)) :
    Env0 P w K mg base (A.under (.builtin "type.__call__" ⟨.ref C :: us, kw⟩)) outer s H := ⟨by first | exact e.frames | (simpa [Around.under, Code.envs, Code.isFrame, pushEnvs] using e.frames), e.mod, e.bs, e.bsz, e.funs, e.frf, e.hok, e.bare⟩

section
variable {X : Cx} {pins : List (Addr × Obj)} {σ : St} {H : Hp} {s s' : Shared}
/-- from a body: what a callee wants -/
theorem Inv.env0 (I : Inv X pins σ H s) : Env0 X.prog X.w X.K X.mg X.base X.A X.stack s H :=
  ⟨I.ok.frames, I.ok.mod, I.bs, Nat.le_trans I.ok.bsz I.sz, I.stack, I.stkFree, I.hok, I.bare⟩
/-- behind a call -/
theorem Inv.after {Q : VK} {u : Value} (I : Inv X pins σ H s) (h : CE X.stack X.prog X.w H s Q u s') : EP X pins σ Q u s' := by
  obtain ⟨v, H', os, bare, un, hok, r, q⟩ := h
  obtain ⟨hh, g, d, t, os'⟩ := s'
  obtain rfl : os' = s.os := os
  exact ⟨v, H', I.call (h' := hh) (g' := g) (d' := d) (t' := t) (ch := []) un hok bare (fun b z => absurd z (by simp)), r, q⟩
end

/-! ### calls -/
/-- f(..): the written arguments, then the defaults dvs; E: what is wanted of an exception -/
def tCall (sp : Sp) (dvs : List V) (E : XK) (t : TA) : TE := fun σ H Q => t σ H fun vs H1 => sp (vs ++ dvs) H1 Q E
/-- o.m(..) of an instance of the class at C -/
def tMeth (C : Addr) (m : Str) (sp : Sp) (dvs : List V) (E : XK) (ta : TE) (t : TA) : TE := fun σ H Q => ta σ H fun x H1 => ∃ a dx fs, x = .ref a ∧ H1 a = some (.ins C dx fs) ∧ fs.lookup m = none ∧
  t σ H1 fun vs H2 => sp (x :: (vs ++ dvs)) H2 Q E
/-- C(..): a new instance and its dict, then __init__ -/
def tMake (C : Addr) (sp : Sp) (dvs : List V) (E : XK) (t : TA) : TE := fun σ H Q => t σ H fun vs H1 => ∀ x dx, H1 x = none → H1 dx = none → dx ≠ x →
  sp (.ref x :: (vs ++ dvs)) (upd (upd H1 dx (.own x)) x (.ins C dx [])) (fun v H2 => v = .non ∧ Q (.ref x) H2) E

/-- how the parameters are bound: us the positional arguments, kw the keywords' values by name, ds the defaults that fill up -/
def Binds (K : PySem.W.Frag) (fd : FuncData) (ps : List Str) (ds : List Value) : Prop :=
  ∀ (s : Shared) (us : List Value), K.In s.heap → (us ++ ds).length = ps.length → BindsTo s fd ⟨us, []⟩ (ps.zip (us ++ ds))
/-- every parameter is given -/
theorem Binds.all {K : PySem.W.Frag} {fd : FuncData} {ps : List Str} (h : ∀ us : List Value, us.length = ps.length → bindArgs fd ⟨us, []⟩ = pure (ps.zip us)) : Binds K fd ps [] := fun s us _ hl => by
  rw [List.append_nil] at hl ⊢
  exact .of_eq (h us hl)

/-- an exception of a callee reaches what this body wants of exceptions -/
def Passes (CX : CXT) (X : Cx) (E : XK) : Prop := ∀ (pins : List (Addr × Obj)) (σ : St) (H : Hp) (s : Shared) (e : Value) (s' : Shared), Inv X pins σ H s → CX X.stack H s E e s' → X.xe e s'

section
variable {X : Cx} {CX : CXT} {k : Nat} {f C : Addr} {fd : FuncData} {ps : List Str} {sp : Sp} {dvs : List V} {ds : List Value} {E : XK} {x m : Str} {p pos apos : Pos} {e o : Expr} {es : List Expr} {ta : TE} {t : TA}

/-- the callee runs -/
theorem run_fn {pins : List (Addr × Obj)} {σ : St} {H : Hp} {s : Shared} {Q : VK} {us : List Value} {vs : List V} (F : FnOk X.prog X.w X.K X.mg X.base CX k f fd ps sp) (hr : Room k X.A) (hb : Binds X.K fd ps ds) (hd : Vals dvs ds) (hx : Passes CX X E)
    (I : Inv X pins σ H s) (r : Vals vs us) (h : sp (vs ++ dvs) H Q E) : wpAny (model X.prog X.w) X.A (call (.ref f) us) (EP X pins σ Q) X.xe s := by
  have r2 : Vals (vs ++ dvs) (us ++ ds) := r.append hd
  have hl : (us ++ ds).length = ps.length := by rw [← r2.length]; exact F.len _ _ _ _ h
  refine wpAny_call (codeAny_mono (F.run X.A X.stack s H ⟨us, []⟩ (us ++ ds) (vs ++ dvs) Q E hr I.env0 (hb s us I.kIn hl) r2 h) fun r s' hq => ?_)
  cases r with
  | error e => exact hx pins σ H s e s' I hq
  | ok fl =>
    cases fl with
    | ret u => exact I.after hq
    | next => exact False.elim hq
    | brk => exact False.elim hq
    | cont => exact False.elim hq

theorem pe_call (F : FnOk X.prog X.w X.K X.mg X.base CX k f fd ps sp) (hr : Room k X.A) (hg : Gl X x) (hm : X.mg x = some (.ref f)) (hk : PySem.W.keepIn X.K (.ref f) = true) (hb : Binds X.K fd ps ds) (hd : Vals dvs ds) (hx : Passes CX X E)
    (ha : PA X (e :: es) t) (hdb : (x == ("__debug__" : Str)) = false := by decide) (he : starEach (e :: es) X.env = (false, eval e X.env) :: starEach es X.env := by rfl) (hpl : (backTo pos (starEach es X.env)).any (·.1) = false := by rfl) :
    PE X (.Call (.Name x p) (e :: es) [] pos) (tCall sp dvs E t) := by
  intro pins s σ H Q I h
  refine wpAny_Call_Name_kw (ld_glob I hg hm ?_ hdb)
  refine PySem.W.callWith_K (h₀ := X.base) I.ok.mod.kin hk (thn (ha pos pins s σ H _ I h) fun us s1 ⟨vs, H1, I1, r, q⟩ => ⟨I1.kIn, ?_⟩) he hpl
  exact run_fn F hr hb hd hx I1 r q

/-- o.m(e, ..) -/
theorem pe_meth {pl : Sem Bool} (he : PE X o ta) (c : Cls X.K C) (hm : Meth X.K C m f) (F : FnOk X.prog X.w X.K X.mg X.base CX k f fd ps sp) (hr : Room k X.A) (hb : Binds X.K fd ps ds) (hd : Vals dvs ds) (hx : Passes CX X E) (ha : PA X (e :: es) t)
    (hst : starEach (e :: es) X.env = (false, eval e X.env) :: starEach es X.env := by rfl) (hpl : (backTo pos (starEach es X.env)).any (·.1) = false := by rfl)
    (ht : eval (.Call (.Attribute o m apos) (e :: es) [] pos) X.env = (do
      let ov ← eval o X.env
      standAt apos.atName
      let (f, first) ← holding [ov] (getMethod ov m pl)
      callWith pos f first (backTo pos (starEach (e :: es) X.env)) (backToKw pos (keywordEach [] X.env))) := by rfl) :
    PE X (.Call (.Attribute o m apos) (e :: es) [] pos) (tMeth C m sp dvs E ta t) := by
  intro pins s σ H Q I h
  refine PySem.W.methodCall_KW (pl := pl) (thn (he pins s σ H _ I h) fun u s1 ⟨x, H1, I1, rx, a, dx, fs, ex, ea, l, q⟩ => ?_) ht
  subst ex
  obtain rfl : u = Value.ref a := rx
  refine getmeth_ok I1 ea c hm l ?_
  refine PySem.W.callWith_K (first := [.ref a]) (h₀ := X.base) I.ok.mod.kin hm.kp (thn (ha pos pins s1 σ H1 _ I1 q) fun us s2 ⟨vs, H2, I2, r, q2⟩ => ⟨I2.kIn, ?_⟩) hst hpl
  exact run_fn (us := .ref a :: us) (vs := .ref a :: vs) F hr hb hd hx I2 (.cons rfl r) q2
/-- o.m() -/
theorem pe_meth0 {pl : Sem Bool} (he : PE X o ta) (c : Cls X.K C) (hm : Meth X.K C m f) (F : FnOk X.prog X.w X.K X.mg X.base CX k f fd ps sp) (hr : Room k X.A) (hb : Binds X.K fd ps ds) (hd : Vals dvs ds) (hx : Passes CX X E)
    (ht : eval (.Call (.Attribute o m apos) [] [] pos) X.env = (do
      let ov ← eval o X.env
      standAt apos.atName
      let (f, first) ← holding [ov] (getMethod ov m pl)
      callWith pos f first (backTo pos (starEach [] X.env)) (backToKw pos (keywordEach [] X.env))) := by rfl) :
    PE X (.Call (.Attribute o m apos) [] [] pos) (tMeth C m sp dvs E ta tNil) := by
  intro pins s σ H Q I h
  refine PySem.W.methodCall_KW (pl := pl) (thn (he pins s σ H _ I h) fun u s1 ⟨x, H1, I1, rx, a, dx, fs, ex, ea, l, q⟩ => ?_) ht
  subst ex
  obtain rfl : u = Value.ref a := rx
  refine getmeth_ok I1 ea c hm l ?_
  exact PySem.W.callWith_K0 (first := [.ref a]) I1.kIn hm.kp (run_fn (us := [.ref a]) (vs := [.ref a]) F hr hb hd hx I1 (.cons rfl .nil) q)

/-- what a class must have to be made -/
structure Mk (K : PySem.W.Frag) (C f : Addr) : Prop where
  makes : PySem.W.makesIn K C = true
  init : PySem.W.findIn K (.ref C) "__init__" = some (some (.ref f))
  fn : PySem.W.isFn K (.ref f) = true
  kp : PySem.W.keepIn K (.ref C) = true

theorem run_make {pins : List (Addr × Obj)} {σ : St} {H : Hp} {s : Shared} {Q : VK} {us : List Value} {vs : List V} (M : Mk X.K C f) (F : FnOk X.prog X.w X.K X.mg X.base CX k f fd ps sp) (hr : Room (k + 1) X.A) (hb : Binds X.K fd ps ds) (hd : Vals dvs ds)
    (hx : Passes CX X E) (I : Inv X pins σ H s) (r : Vals vs us)
    (h : ∀ x dx, H x = none → H dx = none → dx ≠ x → sp (.ref x :: (vs ++ dvs)) (upd (upd H dx (.own x)) x (.ins C dx [])) (fun v H2 => v = .non ∧ Q (.ref x) H2) E) :
    wpAny (model X.prog X.w) X.A (call (.ref C) us) (EP X pins σ Q) X.xe s := by
  have hq := h (s.heap.objs.size + 1) s.heap.objs.size (I.hok.fresh (Nat.le_succ _)) (I.hok.fresh (Nat.le_refl _)) (Nat.ne_of_lt (Nat.lt_succ_self _))
  have I2 := Inv.made (C := C) I
  have r2 : Vals (V.ref (s.heap.objs.size + 1) :: (vs ++ dvs)) (Value.ref (s.heap.objs.size + 1) :: (us ++ ds)) := .cons rfl (r.append hd)
  have hl : (Value.ref (s.heap.objs.size + 1) :: us ++ ds).length = ps.length := by
    have e := r2.length
    rw [F.len _ _ _ _ hq] at e
    exact e.symm
  refine wpAny_call (make_map (f := f) I.kIn M.makes M.init (beq_iff_eq.mp M.fn) (codeAny_mono (F.run _ X.stack _ _ ⟨Value.ref (s.heap.objs.size + 1) :: us, []⟩ (Value.ref (s.heap.objs.size + 1) :: (us ++ ds)) _ _ E (hr.make C us [])
    (I2.env0.make C us []) (hb _ (Value.ref (s.heap.objs.size + 1) :: us) I2.kIn hl) r2 hq) fun r s' hq' => ?_))
  cases r with
  | error e => exact hx pins σ _ _ e s' I2 hq'
  | ok fl =>
    cases fl with
    | ret u =>
      obtain ⟨v, H', I3, rv, ev, q3⟩ := I2.after hq'
      subst ev
      exact ⟨rv, ⟨V.ref (s.heap.objs.size + 1), H', I3, rfl, q3⟩⟩
    | next => exact False.elim hq'
    | brk => exact False.elim hq'
    | cont => exact False.elim hq'
theorem pe_make0 (M : Mk X.K C f) (F : FnOk X.prog X.w X.K X.mg X.base CX k f fd ps sp) (hr : Room (k + 1) X.A) (hg : Gl X x) (hm : X.mg x = some (.ref C)) (hb : Binds X.K fd ps ds) (hd : Vals dvs ds) (hx : Passes CX X E)
    (hdb : (x == ("__debug__" : Str)) = false := by decide) : PE X (.Call (.Name x p) [] [] pos) (tMake C sp dvs E tNil) := by
  intro pins s σ H Q I h
  refine wpAny_Call_Name_kw (ld_glob I hg hm ?_ hdb)
  exact PySem.W.callWith_K0 I.kIn M.kp (run_make (us := []) M F hr hb hd hx I .nil h)
end

/-! ### keywords -/
section
variable {X : Cx} {CX : CXT} {k : Nat} {f C : Addr} {fd : FuncData} {ps ks : List Str} {sp : Sp} {E : XK} {x m : Str} {p pos apos kpos : Pos} {e o : Expr} {es : List Expr} {kws : List Keyword} {te ta : TE} {t tk : TA} {nm : Option Str}

variable {g : List Value → List Value → List Value} {gV : List V → List V → List V}
end

/-! ### a def's body keeps its promise -/
/-- names: the parameters first -/
structure FnScope (N P : List Str) (sc : Scope) : Prop where
  kind : sc.kind = .function
  co : sc.isCoroutine = false
  gen : sc.isGenerator = false
  nd : N.Nodup
  pre : N.take P.length = P
  par : ∀ x ∈ P, sc.names.lookup x = some .local ∨ sc.names.lookup x = some .cell
  nofree : ∀ y ∈ sc.names, y.2 ≠ .free

theorem bindL_out {kindOf : Str → Option NameKind} {x : Str} : ∀ {binds : List (Str × Value)} {m : Str → Option Value}, (∀ v, (x, v) ∉ binds) → bindL kindOf binds m x = m x
  | [], _, _ => rfl
  | (n, v) :: r, m, h => by
    unfold bindL
    rw [bindL_out fun w hw => h w (List.mem_cons_of_mem _ hw)]
    split
    · have : x ≠ n := by rintro rfl; exact h v List.mem_cons_self
      simp [this]
    · rfl
theorem bindC_out {kindOf : Str → Option NameKind} {x : Str} : ∀ {binds : List (Str × Value)} {m : Str → Option Value}, (∀ v, (x, v) ∉ binds) → bindC kindOf binds m x = m x
  | [], _, _ => rfl
  | (n, v) :: r, m, h => by
    unfold bindC
    rw [bindC_out fun w hw => h w (List.mem_cons_of_mem _ hw)]
    split
    · rfl
    · have : x ≠ n := by rintro rfl; exact h v List.mem_cons_self
      simp [this]
theorem bindL_get {kindOf : Str → Option NameKind} {x : Str} {v : Value} : ∀ {P : List Str} {vs : List Value} {i : Nat} {m : Str → Option Value}, P.Nodup → P[i]? = some x → vs[i]? = some v → kindOf x = some .local →
    bindL kindOf (P.zip vs) m x = some v
  | [], _, _, _, _, h, _, _ => by simp at h
  | _ :: _, [], _, _, _, _, h, _ => by simp at h
  | p :: P, w :: vs, 0, m, nd, h1, h2, hk => by
    simp at h1 h2; subst h1; subst h2
    show bindL kindOf ((p, w) :: P.zip vs) m p = _
    unfold bindL
    rw [bindL_out fun v hv => (List.nodup_cons.mp nd).1 (List.of_mem_zip hv).1, if_pos hk]
    simp
  | p :: P, w :: vs, i + 1, m, nd, h1, h2, hk => by
    show bindL kindOf ((p, w) :: P.zip vs) m x = _
    unfold bindL
    exact bindL_get (i := i) (List.nodup_cons.mp nd).2 (by simpa using h1) (by simpa using h2) hk
theorem bindC_get {kindOf : Str → Option NameKind} {x : Str} {v : Value} : ∀ {P : List Str} {vs : List Value} {i : Nat} {m : Str → Option Value}, P.Nodup → P[i]? = some x → vs[i]? = some v → kindOf x ≠ some .local →
    bindC kindOf (P.zip vs) m x = some v
  | [], _, _, _, _, h, _, _ => by simp at h
  | _ :: _, [], _, _, _, _, h, _ => by simp at h
  | p :: P, w :: vs, 0, m, nd, h1, h2, hk => by
    simp at h1 h2; subst h1; subst h2
    show bindC kindOf ((p, w) :: P.zip vs) m p = _
    unfold bindC
    rw [bindC_out fun v hv => (List.nodup_cons.mp nd).1 (List.of_mem_zip hv).1, if_neg hk]
    simp
  | p :: P, w :: vs, i + 1, m, nd, h1, h2, hk => by
    show bindC kindOf ((p, w) :: P.zip vs) m x = _
    unfold bindC
    exact bindC_get (i := i) (List.nodup_cons.mp nd).2 (by simpa using h1) (by simpa using h2) hk

/-- the names' values at the entry -/
def start (N : List Str) (vs : List V) : St := vs.map some ++ List.replicate (N.length - vs.length) none

/-- the context of a def's body, at its entry; an exception leaves the frame, then lies as CX says -/
def cxOf (CX : CXT) (P : Program) (w : World) (K : PySem.W.Frag) (mg : Str → Option Value) (base : Heap) (N : List Str) (qual : Str) (scope : Scope) (f : Addr) (cd : Value) (A : Around) (outer : List Env) (s : Shared) (H : Hp) (E : XK) : Cx where
  prog := P
  w := w
  K := K
  mg := mg
  base := base
  A := A.deeper (envOfC qual scope s.heap.objs.size f cd)
  N := N
  s_0 := s
  H_0 := H
  env := envOfC qual scope s.heap.objs.size f cd
  outer := outer
  stack := envOfC qual scope s.heap.objs.size f cd :: outer
  ex := []
  calm := true
  fn := fun _ => true
  pn := []
  xe := fun e s' => wpAny (model P w) (A.deeper (envOfC qual scope s.heap.objs.size f cd)) (leaving (envOfC qual scope s.heap.objs.size f cd) e) (fun _ s'' => CX outer H s E e s'') (fun e' s'' => CX outer H s E e' s'') s'

theorem cell_has {sc : Scope} {n : Nat} {x : Str} (h : sc.names.lookup x = some .cell) : ∃ c, (cellsFrom n sc.names []).lookup x = some c := by
  have q := PySem.W.cellsFrom_some sc.names n [] (.inl h)
  exact Option.isSome_iff_exists.mp q

theorem inv_start {CX : CXT} {P : Program} {w : World} {K : PySem.W.Frag} {mg : Str → Option Value} {base : Heap} {N ps : List Str} {qual : Str} {scope : Scope} {f : Addr} {cd : Value} {A : Around} {outer : List Env} {s s1 : Shared} {H : Hp} {E : XK} {us : List Value} {vs : List V}
    (S : FnScope N ps scope) (hd : A.handled = none) (e0 : Env0 P w K mg base A outer s H) (hl : vs.length = ps.length) (r : Vals vs us)
    (x : InCallC s s.heap.objs.size (bindL (envOfC qual scope s.heap.objs.size f cd).kindOf (ps.zip us) fun _ => none) (cellsFrom (s.heap.objs.size + 1) scope.names []) (bindC (envOfC qual scope s.heap.objs.size f cd).kindOf (ps.zip us) fun _ => none) s1) :
    Inv (cxOf CX P w K mg base N qual scope f cd A outer s H E) [] (start N vs) H s1 := by
  have hpl : ps.length ≤ N.length := by have := congrArg List.length S.pre; rw [List.length_take] at this; omega
  obtain ⟨h1, tk, rfl, hk⟩ := x.done
  have noA : ∀ b : Addr, b ∉ (cxOf CX P w K mg base N qual scope f cd A outer s H E).ex := fun b z => absurd (show b ∈ ([] : List Addr) from z) (by simp)
  refine ⟨⟨e0.mod, S.kind, rfl, rfl, Nat.le_refl _, fun y z c h1 h2 => ?_, fun y hy => ?_, fun y c _ h => ?_, fun _ => hd, Around.frames_deeper e0.frames, .inr ⟨rfl, rfl⟩, fun b z => absurd z (noA b), e0.bs, e0.bsz, fun b _ _ => noA b, fun b z => absurd z (noA b), e0.funs, e0.frf⟩,
    rfl, e0.bare, Un.kept hk, ⟨_, x.toInCall.ns, fun i y v h1 h2 h3 => ?_⟩, fun y c h => ⟨_, x.cell y c h⟩, e0.hok.fresh (Nat.le_refl _), fun y c h => ?_, fun p hp => absurd (show p ∈ ([] : List (Addr × Obj)) from hp) (by simp), e0.hok.kept hk, ?_⟩
  · exact name_of_addr x.apart (PySem.mem_of_lookup h1) (PySem.mem_of_lookup h2)
  · have hy : scope.names.lookup y = some .cell ∨ scope.names.lookup y = some .free := hy
    rcases hy with hy | hy
    · exact cell_has hy
    · exact absurd rfl (S.nofree _ (PySem.mem_of_lookup hy))
  · exact Nat.le_of_lt (x.above y c (PySem.mem_of_lookup h))
  · have hi : i < vs.length := by
      unfold start at h2
      by_cases hi : i < vs.length
      · exact hi
      · rw [List.getElem?_append_right (by simpa using hi)] at h2
        rw [List.getElem?_replicate] at h2
        split at h2 <;> cases h2
    have ha : vs[i]? = some v := by
      unfold start at h2
      rw [List.getElem?_append_left (by simpa using hi), List.getElem?_map] at h2
      cases e : vs[i]? with
      | none => rw [e] at h2; cases h2
      | some a => rw [e] at h2; cases h2; rfl
    obtain ⟨u, hu, rv⟩ := r.get ha
    have hp : ps[i]? = some y := by
      rw [← S.pre, List.getElem?_take_of_lt (by omega)]; exact h1
    have ndP : ps.Nodup := by rw [← S.pre]; exact S.nd.sublist (List.take_sublist _ _)
    refine ⟨u, rv, ?_⟩
    rcases S.par y (List.mem_of_getElem? hp) with k | k
    · exact .inl ⟨k, bindL_get ndP hp hu k⟩
    · obtain ⟨c, e⟩ := cell_has (n := s.heap.objs.size + 1) k
      refine .inr ⟨.inl k, c, e, ?_⟩
      have q := x.cell y c e
      rw [bindC_get ndP hp hu (by show scope.names.lookup y ≠ _; rw [k]; decide)] at q
      exact q
  · exact e0.hok.fresh (Nat.le_of_lt (x.above y c (PySem.mem_of_lookup h)))
  · unfold start
    show _ = N.length
    rw [List.length_append, List.length_map, List.length_replicate]
    omega

/-- THE RULE: a def (or a method) of the text, by its body. The body's reading t is chosen for each entry; it is run at the parameters' values -/
theorem fn_of {CX : CXT} {P : Program} {w : World} {K : PySem.W.Frag} {mg : Str → Option Value} {base : Heap} {k : Nat} {f : Addr} {name qual : Str} {params : Arguments} {body : List Stmt} {scope : Scope} {dV kV doc pm cdv ct oc : Value} {an od : Option Addr}
    {osl : Array (Option Value)} {N ps : List Str} {sp : Sp} (lk : K.lookup f = some ⟨oc, od, .func (PySem.W.fnOf name qual params body scope dV kV doc pm an cdv ct), osl⟩) (hcd : PySem.W.codeIn K cdv qual = true) (S : FnScope N ps scope)
    (len : ∀ vs H Q E, sp vs H Q E → vs.length = ps.length)
    (hbody : ∀ (A : Around) (outer : List Env) (s : Shared) (H : Hp) (vs : List V) (Q : VK) (E : XK), Room k (A.deeper (envOfC qual scope s.heap.objs.size f cdv)) → sp vs H Q E →
      ∃ t, PSs (cxOf CX P w K mg base N qual scope f cdv A outer s H E) body t ∧ t { nx := fun _ H' => Q .non H', rt := Q } (start N vs) H) :
    FnOk P w K mg base CX (k + 1) f (PySem.W.fnOf name qual params body scope dV kV doc pm an cdv ct) ps sp := by
  refine ⟨len, fun A outer s H args us vs Q E hr e0 hb r hsp => ?_⟩
  have hl := len _ _ _ _ hsp
  have KX : K.In s.heap := e0.mod.kin.keeps fun b o e => (e0.bs b o e).1
  have lim : s.heap.NoLimit := e0.mod.nolimit.keeps fun b o e => (e0.bs b o e).1
  have hkind : ∀ y ∈ ps.zip us, scope.names.lookup y.1 = some .local ∨ (scope.names.lookup y.1 = some .cell ∧ ((cellsFrom (s.heap.objs.size + 1) scope.names []).lookup y.1).isSome = true) := fun ⟨n, v⟩ hy => by
    rcases S.par n (List.of_mem_zip hy).1 with q | q
    · exact .inl q
    · exact .inr ⟨q, PySem.W.cellsFrom_some _ _ _ (.inl q)⟩
  refine codeAny_call_function hr.depth (KX _ _ lk) rfl S.co S.gen rfl (PySem.W.codeRec_of KX hcd) (hb _ _ _ _ ?_)
  refine wpAny_newFunctionEnv_cells S.kind hkind fun env he s1 x => ?_
  subst he
  refine ⟨lim.keeps x.toInCall.keep, codeAny_func ?_⟩
  obtain ⟨t, ht, hq⟩ := hbody A outer s H vs Q E (hr.deeper _) hsp
  have I : Inv (cxOf CX P w K mg base N qual scope f cdv A outer s H E) [] (start N vs) H s1 := inv_start S hr.hd e0 hl r x
  refine wpAny_mono (ht [] s1 (start N vs) H _ I hq) (fun fl s' hs => ?_) fun e s' hs => hs
  have fin : ∀ {σ' : St} {H' : Hp} {v : V} {u : Value}, Inv (cxOf CX P w K mg base N qual scope f cdv A outer s H E) [] σ' H' s' → RelV v u → Q v H' → CE outer P w H s Q u s' :=
    fun {σ' H' v u} J rv q => ⟨v, H', J.os, J.bare, J.base, J.hok, rv, q⟩
  cases fl with
  | ret u =>
    obtain ⟨v, σ', H', J, rv, q⟩ := hs
    exact fin J rv q
  | next =>
    obtain ⟨σ', H', J, q⟩ := hs
    exact fin (v := V.non) (u := Value.none) J rfl q
  | brk =>
    obtain ⟨_, _, _, q⟩ := hs
    exact False.elim q
  | cont =>
    obtain ⟨_, _, _, q⟩ := hs
    exact False.elim q
end L2

namespace L2
open PySem PySem.Spec PyProof.Rows
section
variable {X : Cx} {x : Str} {p pos : Pos} {e : Expr} {es : List Expr} {t : TA} {id T : String} {r : List V → Hp → VK → Prop}

def tCB (r : List V → Hp → VK → Prop) (t : TA) : TE := fun σ H Q => t σ H fun vs H1 => r vs H1 Q
/-- f(e, ..), f a built-in function -/
theorem pe_callB (hc : CallR X (.builtin id) r) (hg : Gl X x) (hm : X.mg x = none) (hv : bootBuiltins x = some (.builtin id)) (ha : PA X (e :: es) t) (hn : x ≠ "__name__" := by decide) (hdb : (x == ("__debug__" : Str)) = false := by decide)
    (he : starEach (e :: es) X.env = (false, eval e X.env) :: starEach es X.env := by rfl) (hpl : (backTo pos (starEach es X.env)).any (·.1) = false := by rfl) : PE X (.Call (.Name x p) (e :: es) [] pos) (tCB r t) := by
  intro pins s σ H Q I h
  refine wpAny_Call_Name_kw (ld_blt I hg hm hv ?_ hn hdb)
  exact PyProof.Rows.callWith_builtin1 (thn (ha pos pins s σ H _ I h) fun us s1 ⟨vs, H1, I1, r1, q1⟩ => hc pins s1 σ H1 vs us Q I1 r1 q1) he hpl
/-- T(e, ..), T a built-in type -/
theorem pe_callTy (hc : CallR X (.type T) r) (hg : Gl X x) (hm : X.mg x = none) (hv : bootBuiltins x = some (.type T)) (ha : PA X (e :: es) t) (hn : x ≠ "__name__" := by decide) (hdb : (x == ("__debug__" : Str)) = false := by decide)
    (he : starEach (e :: es) X.env = (false, eval e X.env) :: starEach es X.env := by rfl) (hpl : (backTo pos (starEach es X.env)).any (·.1) = false := by rfl) : PE X (.Call (.Name x p) (e :: es) [] pos) (tCB r t) := by
  intro pins s σ H Q I h
  refine wpAny_Call_Name_kw (ld_blt I hg hm hv ?_ hn hdb)
  exact PyProof.Rows.callWith_type1 (thn (ha pos pins s σ H _ I h) fun us s1 ⟨vs, H1, I1, r1, q1⟩ => hc pins s1 σ H1 vs us Q I1 r1 q1) he hpl
end
end L2

namespace HT
open PySem PyProof.Rows

section
open PySem.SeqAt
open PySem.AutoSeq1 (wpAny_loadPart')
open PySem.MeetsSeq PySem.MeetsSeq2 PySem.MeetsSeq3

end

section
variable {prog : Program} {w : World} {A : Around} {E : Value → Shared → Prop} {s : Shared}

/-! ### t[a:b], not the whole -/
/-- a slice's bound as a place among n (d where it is left out) -/
def sIx (n d : Nat) : Option Int → Nat
  | none => d
  | some v => if v < 0 then (v + (n : Int)).toNat else min v.toNat n
theorem sIx_nat (n d k : Nat) : sIx n d (some (k : Int)) = min k n := by
  show (if (k : Int) < 0 then ((k : Int) + (n : Int)).toNat else min (k : Int).toNat n) = min k n
  rw [if_neg (by omega), Int.toNat_natCast]

end
end HT

namespace L2
open PySem PySem.Spec PyProof.Rows

/-! ### the parts of a slice -/
abbrev TO := St → Hp → (Option Int → Hp → Prop) → Prop
/-- a slice's part (left out, or an int) -/
def PO (X : Cx) (e : Option Expr) (t : TO) : Prop :=
  ∀ (pins : List (Addr × Obj)) (s : Shared) (σ : St) (H : Hp) (Q : Option Int → Hp → Prop), Inv X pins σ H s → t σ H Q →
    wpAny (model X.prog X.w) X.A (evalPart e X.env) (fun u s' => ∃ o H', Inv X pins σ H' s' ∧ IsPart u o ∧ Q o H') X.xe s
def tPart (t : TE) : TO := fun σ H Q => t σ H fun x H1 => ∃ i, x = .int i ∧ Q (some i) H1

section
variable {X : Cx} {e : Expr} {te : TE} {lo hi : Option Expr} {tl th : TO} {pos p2 : Pos}

theorem po_some (h : PE X e te) : PO X (some e) (tPart te) := by
  intro pins s σ H Q I hw
  rw [evalPart_some]
  refine thn (h pins s σ H _ I hw) fun u s1 ⟨x, H1, I1, r1, q1⟩ => ?_
  obtain ⟨i, rfl, q⟩ := q1
  obtain ⟨t, rfl⟩ := r1
  exact ⟨some i, H1, I1, .int i t, q⟩

/-- what a slice of a value is, by values: the slice object stands at sl -/
def SlR (X : Cx) (r : V → Option Int → Option Int → Hp → VK → Prop) : Prop :=
  ∀ (pins : List (Addr × Obj)) (s : Shared) (σ : St) (H : Hp) (x : V) (v vl vu : Value) (lo hi : Option Int) (sl : Addr) (Q : VK), Inv X pins σ H s → RelV x v → s.heap.IsSliceOf sl vl vu .none → IsPart vl lo → IsPart vu hi → r x lo hi H Q →
    ∃ T id, typeLookup (.type T) "__getitem__" = pure (some (.builtin id)) ∧ s.TypeIs v T ∧ wpAny (model X.prog X.w) X.A (getItem v (.ref sl)) (EP X pins σ Q) X.xe s
def tSl (r : V → Option Int → Option Int → Hp → VK → Prop) (te : TE) (tl th : TO) : TE := fun σ H Q => te σ H fun x H1 => tl σ H1 fun l H2 => th σ H2 fun u H3 => r x l u H3 Q
/-- a[lo:hi], any a -/
theorem pe_slice {r : V → Option Int → Option Int → Hp → VK → Prop} (hr : SlR X r) (he : PE X e te) (hl : PO X lo tl) (hu : PO X hi th) : PE X (.Subscript e (.Slice lo hi none p2) pos) (tSl r te tl th) := by
  intro pins s σ H Q I h
  refine Subscript_ (thn (he pins s σ H _ I h) fun v s1 ⟨x, H1, I1, r1, q1⟩ => ?_)
  refine wpAny_Slice (thn (hl pins s1 σ H1 _ I1 q1) fun vl s2 ⟨l, H2, I2, pl, q2⟩ => thn (hu pins s2 σ H2 _ I2 q2) fun vu s3 ⟨u, H3, I3, pu, q3⟩ => ?_)
  rw [evalPart_none]
  refine wpAny_pure ?_
  have I4 : Inv X pins σ H3 { s3 with heap := s3.heap.push { cls := .type "slice", data := .fields #[vl, vu, .none] } } := I3.kept (t' := s3.toks) fun b ob q => Heap.get?_push_of_some _ q
  obtain ⟨T, id, hT, ht, hg⟩ := hr pins { s3 with heap := s3.heap.push { cls := .type "slice", data := .fields #[vl, vu, .none] } } σ H3 x v vl vu l u s3.heap.objs.size Q I4 r1 (Heap.IsSliceOf.new ..) pl pu q3
  show wpAny (model X.prog X.w) X.A (subscriptTail e (.Slice lo hi none p2) v (.ref s3.heap.objs.size)) (EP X pins σ Q) X.xe { s3 with heap := s3.heap.push { cls := .type "slice", data := .fields #[vl, vu, .none] } }
  exact tail_any (ops := [.ref s3.heap.objs.size, v]) ht hT hg (by with_unfolding_all rfl)

/-- the items of xs[lo:hi] -/
def cutV (xs : List V) (lo hi : Option Int) : List V := (xs.drop (HT.sIx xs.length 0 lo)).take (HT.sIx xs.length xs.length hi - HT.sIx xs.length 0 lo)
theorem cutV_length (xs : List V) (lo hi : Option Int) : (cutV xs lo hi).length ≤ xs.length := by
  unfold cutV
  rw [List.length_take, List.length_drop]
  omega

/-! ### t < u, t + u -/
end
end L2

namespace L2
open PySem PySem.Spec PyProof.Rows

/-! ### places -/
/-- the place that an index of any sign means -/
def ixN (n : Nat) (i : Int) : Option Nat := if 0 ≤ i then (if i < n then some i.toNat else none) else if -(n : Int) ≤ i then some (i + n).toNat else none
def atI {α : Type} (xs : List α) (i : Int) : Option α := (ixN xs.length i).bind fun j => xs[j]?
theorem ixN_seq {n : Nat} {i : Int} {j : Nat} (h : ixN n i = some j) : seqIndex? i n = some j ∧ j < n ∧ -(n : Int) ≤ i ∧ i < n := by
  unfold ixN at h
  by_cases h0 : 0 ≤ i
  · rw [if_pos h0] at h
    by_cases h1 : i < n
    · rw [if_pos h1] at h
      have e : i.toNat = j := Option.some.inj h
      exact ⟨by rw [seqIndex_of h0 h1, e], by omega, by omega, h1⟩
    · rw [if_neg h1] at h; cases h
  · rw [if_neg h0] at h
    by_cases h1 : -(n : Int) ≤ i
    · rw [if_pos h1] at h
      have e : (i + n).toNat = j := Option.some.inj h
      exact ⟨by rw [seqIndex_neg (by omega) h1, e], by omega, h1, by omega⟩
    · rw [if_neg h1] at h; cases h
theorem atI_get {α : Type} {xs : List α} {i : Int} {v : α} (h : atI xs i = some v) : ∃ j, seqIndex? i xs.length = some j ∧ xs[j]? = some v ∧ j < xs.length ∧ -(xs.length : Int) ≤ i ∧ i < xs.length := by
  unfold atI at h
  cases e : ixN xs.length i with
  | none => rw [e] at h; cases h
  | some j =>
    rw [e] at h
    obtain ⟨h1, h2, h3, h4⟩ := ixN_seq e
    exact ⟨j, h1, h, h2, h3, h4⟩
theorem atI_nat {α : Type} {xs : List α} {j : Nat} {v : α} (h : xs[j]? = some v) : atI xs (j : Int) = some v := by
  have hj : j < xs.length := (List.getElem?_eq_some_iff.mp h).1
  have e : ixN xs.length (j : Int) = some j := by
    unfold ixN
    rw [if_pos (by omega), if_pos (by omega)]; simp
  unfold atI; rw [e]; exact h
theorem atI_last {α : Type} (xs : List α) (v : α) : atI (xs ++ [v]) (-1) = some v := by
  have hl : (xs ++ [v]).length = xs.length + 1 := by simp
  have e : ixN (xs ++ [v]).length (-1) = some xs.length := by
    unfold ixN
    rw [hl, if_neg (by decide), if_pos (by omega)]
    congr 1
    omega
  unfold atI
  rw [e]
  show (xs ++ [v])[xs.length]? = some v
  simp

/-! ### what may be subscripted -/
/-- what stands as an index of a plain subscript -/
def PlainIx (b : Expr) : Prop := ∀ o i, subscripted b false o i = operate [o, i] (getItem o i)
/-- a subscript by values -/
def IxR (X : Cx) (r : R2) : Prop :=
  ∀ (value slice : Expr) (pins : List (Addr × Obj)) (s : Shared) (σ : St) (H : Hp) (x y : V) (v u : Value) (Q : VK), Inv X pins σ H s → RelV x v → RelV y u → r x y H Q →
    subscripted slice false v u = operate [v, u] (getItem v u) → wpAny (model X.prog X.w) X.A (subscriptTail value slice v u) (EP X pins σ Q) X.xe s
/-- a call of a builtin's method by values: the receiver, the arguments -/
def MtR (X : Cx) (id : String) (r : V → List V → Hp → VK → Prop) : Prop :=
  ∀ (pins : List (Addr × Obj)) (s : Shared) (σ : St) (H : Hp) (x : V) (xs : List V) (v : Value) (us : List Value) (Q : VK), Inv X pins σ H s → RelV x v → Vals xs us → r x xs H Q →
    wpAny (model X.prog X.w) X.A (call (.builtin id) (v :: us)) (EP X pins σ Q) X.xe s
section
variable {X : Cx} {a b : Expr} {ta tb : TE} {pos : Pos}
/-- a[b] -/
theorem pe_ix {r : R2} (hr : IxR X r) (ha : PE X a ta) (hb : PE X b tb) (hs : PlainIx b) : PE X (.Subscript a b pos) (tOp r ta tb) := by
  intro pins s σ H Q I h
  exact Subscript_ (binT ha hb I h fun v u s2 x y H2 I2 rx ry q => hr a b pins s2 σ H2 x y v u Q I2 rx ry q (hs _ _))

def rIxL (K : PySem.W.Frag) : R2 := fun x y H Q => ∃ p xs i v, x = .ref p ∧ y = .int i ∧ SqL K H p xs ∧ atI xs i = some v ∧ Q v H
def rIxT (K : PySem.W.Frag) : R2 := fun x y H Q => ∃ p xs i v, x = .ref p ∧ y = .int i ∧ SqT K H p xs ∧ atI xs i = some v ∧ Q v H
theorem ix_list : IxR X (rIxL X.K) := by
  intro value slice pins s σ H x y v u Q I rx ry h hs
  obtain ⟨p, xs, i, z, rfl, rfl, hq, he, q⟩ := h
  cases rx
  obtain ⟨t, rfl⟩ := ry
  obtain ⟨its, r, pl, hz⟩ := I.list hq
  obtain ⟨j, h1, h2, h3, h4, h5⟩ := atI_get he
  obtain ⟨w, ew, rw'⟩ := r.get h2
  have hl := r.length
  have hn := line63
  have fin : EP X pins σ Q w s := ⟨z, H, I, rw', q⟩
  by_cases h0 : 0 ≤ i
  · have hj : i.toNat = j := by
      rw [seqIndex_of h0 h5] at h1
      exact Option.some.inj h1
    exact item_listR pl.isList h0 (by omega) (by rw [hj]; simpa using ew) fin hs
  · have hj : (i + (its.toArray.size : Int)).toNat = j := by
      rw [seqIndex_neg (by omega) h4] at h1
      rw [List.size_toArray, ← hl]
      exact Option.some.inj h1
    exact subscriptTail_builtinR (x := w) pl.isList.typeIs slot_list_getitem.lookup
      (wpAny_getItem_list_neg (Q := fun r s' => r = w ∧ EP X pins σ Q r s') pl.isList (by omega) (by rw [List.size_toArray] <;> omega) (by omega) (by rw [hj]; simpa using ew) ⟨rfl, fin⟩) hs
theorem ix_tup : IxR X (rIxT X.K) := by
  intro value slice pins s σ H x y v u Q I rx ry h hs
  obtain ⟨p, xs, i, z, rfl, rfl, hq, he, q⟩ := h
  cases rx
  obtain ⟨t, rfl⟩ := ry
  obtain ⟨its, r, pl, hz⟩ := I.tuple hq
  obtain ⟨j, h1, h2, h3, h4, h5⟩ := atI_get he
  obtain ⟨w, ew, rw'⟩ := r.get h2
  have hl := r.length
  have hn := line63
  have fin : EP X pins σ Q w s := ⟨z, H, I, rw', q⟩
  exact subscriptTail_builtinR (x := w) pl.typeIs slot_tuple_getitem.lookup
    (getItem_tuple (j := j) (Q := fun r s' => r = w ∧ EP X pins σ Q r s') pl (by omega) (by omega) (by rw [List.size_toArray, ← hl]; exact h1) (by simpa using ew) ⟨rfl, fin⟩) hs

/-! ### xs[i] = v, any sign -/

/-! ### slices -/
theorem slice_bounds (lo hi : Option Int) (n : Nat) : (sliceBounds lo hi none n).1 = ((HT.sIx n 0 lo : Nat) : Int) ∧ (sliceBounds lo hi none n).2.1 = ((HT.sIx n n hi : Nat) : Int) ∧ (sliceBounds lo hi none n).2.2 = 1 := by
  refine ⟨?_, ?_, rfl⟩
  · cases lo with
    | none => simp [sliceBounds, HT.sIx]
    | some i =>
      simp only [sliceBounds, HT.sIx, Option.getD_none, show (1 : Int) > 0 by decide, if_true]
      by_cases h : i < 0
      · simp only [h, if_true] <;> omega
      · simp only [h, if_false] <;> omega
  · cases hi with
    | none => simp [sliceBounds, HT.sIx]
    | some i =>
      simp only [sliceBounds, HT.sIx, Option.getD_none, show (1 : Int) > 0 by decide, if_true]
      by_cases h : i < 0
      · simp only [h, if_true] <;> omega
      · simp only [h, if_false] <;> omega
theorem slicePick_cut (its : List Value) (lo hi : Option Int) : slicePick its.toArray lo hi none = ((its.drop (HT.sIx its.length 0 lo)).take (HT.sIx its.length its.length hi - HT.sIx its.length 0 lo)).toArray := by
  obtain ⟨h1, h2, h3⟩ := slice_bounds lo hi its.toArray.size
  unfold slicePick
  rw [h1, h2, h3]
  simp only [sliceRange_one, pick_run, List.size_toArray] <;> rfl
/-- xs[lo:hi] of a list: a new list -/
def rSlL (K : PySem.W.Frag) : V → Option Int → Option Int → Hp → VK → Prop := fun x lo hi H Q => ∃ a xs, x = .ref a ∧ SqL K H a xs ∧ ∀ p, H p = none → Q (.ref p) (upd H p (.lst (cutV xs lo hi)))
theorem sl_list : SlR X (rSlL X.K) := by
  intro pins s σ H x v vl vu lo hi sl Q I rx hs pl pu h
  obtain ⟨a, xs, rfl, hx, q⟩ := h
  cases rx
  obtain ⟨its, r, ht, hz⟩ := I.list hx
  have hlen := r.length
  refine ⟨"list", _, slot_list_getitem.lookup, ht.isList.typeIs, ?_⟩
  refine wpAny_getItem_list_slice ht.isList hs pl pu .none (by simp) ?_ (by rw [List.size_toArray] <;> omega)
  rw [slicePick_cut, ← hlen]
  refine ⟨.ref s.heap.objs.size, _, I.laid (t' := s.toks) (o := .lst (cutV xs lo hi)) (fun b ob q => Heap.get?_push_of_some _ q) (Nat.le_refl _) ?_, rfl, q _ (I.hok.fresh (Nat.le_refl _))⟩
  exact ⟨Nat.le_trans (cutV_length xs lo hi) hz, _, 0, (r.drop (HT.sIx xs.length 0 lo)).take (HT.sIx xs.length xs.length hi - HT.sIx xs.length 0 lo), Heap.get?_push_size _ rfl⟩

/-! ### in, not in: flat items -/
def flatV : V → Bool
  | .non => true
  | .bl _ => true
  | .int _ => true
  | .str _ => true
  | _ => false
/-- == of flat values -/
def eqV : V → V → Bool
  | .non, .non => true
  | .bl a, .bl b => a == b
  | .bl a, .int b => (if a then 1 else 0) == b
  | .int a, .bl b => a == (if b then 1 else 0)
  | .int a, .int b => a == b
  | .str a, .str b => a == b
  | _, _ => false
theorem eqAt_V {A : Around} {s : Shared} {y x : V} {u v : Value} (ry : RelV y u) (rx : RelV x v) (fy : flatV y = true) (fx : flatV x = true) : SeqAt.EqAt A s u v (eqV y x) := by
  cases y with
  | non =>
    cases ry
    cases x with
    | non => cases rx; exact SeqAt.EqAt.same _
    | bl b => cases rx; exact SeqAt.EqAt.none_bool b
    | int b => obtain ⟨t, rfl⟩ := rx; exact SeqAt.EqAt.none_int b t
    | str b => obtain ⟨t, rfl⟩ := rx; exact SeqAt.EqAt.none_str b t
    | _ => exact absurd (show false = true from fx) Bool.false_ne_true
  | bl a =>
    cases ry
    cases x with
    | non => cases rx; exact SeqAt.EqAt.bool_none a
    | bl b => cases rx; exact SeqAt.EqAt.bool_bool a b
    | int b => obtain ⟨t, rfl⟩ := rx; exact SeqAt.EqAt.bool_int a b t
    | str b => obtain ⟨t, rfl⟩ := rx; exact SeqAt.EqAt.bool_str a b t
    | _ => exact absurd (show false = true from fx) Bool.false_ne_true
  | int a =>
    obtain ⟨t', rfl⟩ := ry
    cases x with
    | non => cases rx; exact SeqAt.EqAt.int_none a t'
    | bl b => cases rx; exact SeqAt.EqAt.int_bool a t' b
    | int b => obtain ⟨t, rfl⟩ := rx; exact SeqAt.EqAt.int_int a t' b t
    | str b => obtain ⟨t, rfl⟩ := rx; exact SeqAt.EqAt.int_str a t' b t
    | _ => exact absurd (show false = true from fx) Bool.false_ne_true
  | str a =>
    obtain ⟨t', rfl⟩ := ry
    cases x with
    | non => cases rx; exact SeqAt.EqAt.str_none a t'
    | bl b => cases rx; exact SeqAt.EqAt.str_bool a t' b
    | int b => obtain ⟨t, rfl⟩ := rx; exact SeqAt.EqAt.str_int a t' b t
    | str b => obtain ⟨t, rfl⟩ := rx; exact SeqAt.EqAt.str_str a t' b t
    | _ => exact absurd (show false = true from fx) Bool.false_ne_true
  | _ => exact absurd (show false = true from fy) Bool.false_ne_true
/-- the items' answers, read off the values (a value's own answer does not lean on its token) -/
def eqU (x : V) (u : Value) : Bool := match u with
  | .none => eqV .non x
  | .bool b => eqV (.bl b) x
  | .int i _ => eqV (.int i) x
  | .str z _ => eqV (.str z) x
  | _ => false
theorem eqU_of {x y : V} {u : Value} (r : RelV y u) (f : flatV y = true) : eqU x u = eqV y x := by
  cases y with
  | non => cases r; rfl
  | bl b => cases r; rfl
  | int i => obtain ⟨t, rfl⟩ := r; rfl
  | str z => obtain ⟨t, rfl⟩ := r; rfl
  | _ => exact absurd (show false = true from f) Bool.false_ne_true
theorem any_eqU {x : V} : ∀ {xs : List V} {us : List Value}, Vals xs us → xs.all flatV = true → us.any (eqU x) = xs.any fun y => eqV y x
  | _, _, .nil, _ => rfl
  | y :: xs, u :: us, .cons r t, f => by
    rw [List.all_cons, Bool.and_eq_true] at f
    rw [List.any_cons, List.any_cons, eqU_of r f.1, any_eqU t f.2]
theorem mem_eqAt {A : Around} {s : Shared} {x : V} {v : Value} (rx : RelV x v) (fx : flatV x = true) : ∀ {xs : List V} {us : List Value}, Vals xs us → xs.all flatV = true → ∀ u ∈ us, SeqAt.EqAt A s u v (eqU x u)
  | _, _, .nil, _ => fun u hu => by cases hu
  | y :: xs, u :: us, .cons r t, f => fun u' hu => by
    rw [List.all_cons, Bool.and_eq_true] at f
    rcases List.mem_cons.mp hu with rfl | hu
    · rw [eqU_of r f.1]; exact eqAt_V r rx f.1 fx
    · exact mem_eqAt rx fx t f.2 u' hu
def inV (x : V) (xs : List V) : Bool := xs.any fun y => eqV y x
/-- x in a list or tuple of flat items -/
def rIn (K : PySem.W.Frag) (neg : Bool) : R2 := fun x y H Q => ∃ p xs, y = .ref p ∧ (SqL K H p xs ∨ SqT K H p xs) ∧ flatV x = true ∧ xs.all flatV = true ∧ Q (.bl (if neg then !inV x xs else inV x xs)) H
theorem op_in_seq : OpR X (compareOp .In) (rIn X.K false) := by
  intro pins s σ H x y v u Q I rx ry h
  obtain ⟨p, xs, rfl, hq, fx, fs, q⟩ := h
  cases ry
  rcases hq with hq | hq
  · obtain ⟨its, r, pl, hz⟩ := I.list hq
    refine SeqAt.in_listAt (eqU x) pl.isList (fun w hw => mem_eqAt rx fx r fs w (by simpa using hw)) ⟨.bl _, H, I, rfl, ?_⟩
    rw [show its.toArray.any (eqU x) = its.any (eqU x) by simp, any_eqU r fs]
    exact q
  · obtain ⟨its, r, pl, hz⟩ := I.tuple hq
    refine SeqAt.in_tupleAt (eqU x) pl (fun w hw => mem_eqAt rx fx r fs w (by simpa using hw)) ⟨.bl _, H, I, rfl, ?_⟩
    rw [show its.toArray.any (eqU x) = its.any (eqU x) by simp, any_eqU r fs]
    exact q
theorem op_notIn_seq : OpR X (compareOp .NotIn) (rIn X.K true) := by
  intro pins s σ H x y v u Q I rx ry h
  obtain ⟨p, xs, rfl, hq, fx, fs, q⟩ := h
  cases ry
  rcases hq with hq | hq
  · obtain ⟨its, r, pl, hz⟩ := I.list hq
    refine SeqAt.notIn_listAt (eqU x) pl.isList (fun w hw => mem_eqAt rx fx r fs w (by simpa using hw)) ⟨.bl _, H, I, rfl, ?_⟩
    rw [show its.toArray.any (eqU x) = its.any (eqU x) by simp, any_eqU r fs]
    exact q
  · obtain ⟨its, r, pl, hz⟩ := I.tuple hq
    refine SeqAt.notIn_tupleAt (eqU x) pl (fun w hw => mem_eqAt rx fx r fs w (by simpa using hw)) ⟨.bl _, H, I, rfl, ?_⟩
    rw [show its.toArray.any (eqU x) = its.any (eqU x) by simp, any_eqU r fs]
    exact q

/-! ### len, list(x), tuple(x) of any list or tuple that is read -/
theorem call_len_seq : CallR X (.builtin "len") (fun xs H Q => ∃ p ys, xs = [.ref p] ∧ (SqL X.K H p ys ∨ SqT X.K H p ys) ∧ Q (.int ys.length) H) := by
  intro pins s σ H xs us Q I r h
  obtain ⟨p, ys, rfl, hq, q⟩ := h
  obtain ⟨u, rfl, rx⟩ := vals1 r
  cases rx
  have hn := line63
  rcases hq with hq | hq
  · obtain ⟨its, r', pl, hz⟩ := I.list hq
    have hlen := r'.length
    exact Calls.call_len_list pl.isList (by simp only [List.size_toArray] <;> omega) ⟨.int ys.length, H, I.tok _, ⟨s.toks + 1, by rw [List.size_toArray, hlen]⟩, q⟩
  · obtain ⟨its, r', pl, hz⟩ := I.tuple hq
    have hlen := r'.length
    exact len_tuple pl (by simp only [List.size_toArray] <;> omega) ⟨.int ys.length, H, I.tok _, ⟨s.toks + 1, by rw [List.size_toArray, hlen]⟩, q⟩

/-! ### the call of a builtin's method: o.m(..) -/
/-- the value is of that builtin type -/
def tyV (K : PySem.W.Frag) (T : String) (x : V) (H : Hp) : Prop := match x with
  | .str _ => T = "str"
  | .int _ => T = "int"
  | .ref p => (T = "list" ∧ ∃ xs, SqL K H p xs) ∨ (T = "tuple" ∧ ∃ o, K.lookup p = some o ∧ o.cls = .type "tuple" ∧ o.dict = none) ∨
      (T = "dict" ∧ ((∃ kvs, H p = some (.dK kvs)) ∨ ∃ kvs, H p = some (.dT kvs))) ∨ (T = "set" ∧ ∃ S n, H p = some (.set S n))
  | _ => False
theorem tyV_is {pins : List (Addr × Obj)} {σ : St} {H : Hp} {s : Shared} {T : String} {x : V} {v : Value} (I : Inv X pins σ H s) (r : RelV x v) (ty : tyV X.K T x H) :
    s.TypeIs v T ∧ ∀ a, v = .ref a → ∃ ob, s.heap.get? a = some ob ∧ ob.dict = none := by
  cases x with
  | str z =>
    obtain ⟨t, rfl⟩ := r
    cases (show T = "str" from ty)
    exact ⟨typeIs_str s z t, fun _ e => nomatch e⟩
  | int i =>
    obtain ⟨t, rfl⟩ := r
    cases (show T = "int" from ty)
    exact ⟨typeIs_int s i t, fun _ e => nomatch e⟩
  | ref p =>
    cases r
    rcases ty with ⟨rfl, xs, hq⟩ | ⟨rfl, o, hk, hc, hd⟩ | ⟨rfl, hk⟩ | ⟨rfl, S, n, hk⟩
    · obtain ⟨its, _, pl, _⟩ := I.list hq
      refine ⟨pl.isList.typeIs, fun a e => ?_⟩
      cases e
      obtain ⟨o, n, e, c, hd, _⟩ := pl
      exact ⟨o, e, hd⟩
    · refine ⟨⟨o, I.kIn p o hk, hc⟩, fun a e => ?_⟩
      cases e
      exact ⟨o, I.kIn _ o hk, hd⟩
    · have z : ∃ o, s.heap.get? p = some o ∧ o.ExactDict := by
        rcases hk with ⟨kvs, hk⟩ | ⟨kvs, hk⟩
        · obtain ⟨_, _, _, _, o, _, _, e, ex, _⟩ := I.hok p _ hk
          exact ⟨o, e, ex⟩
        · obtain ⟨_, _, _, _, o, _, _, e, ex, _⟩ := I.hok p _ hk
          exact ⟨o, e, ex⟩
      obtain ⟨o, e, ex⟩ := z
      refine ⟨⟨o, e, ex.1⟩, fun a e2 => ?_⟩
      cases e2
      exact ⟨o, e, ex.2.1⟩
    · obtain ⟨o, _, _, _, e, ex, _⟩ := I.hok p _ hk
      refine ⟨⟨o, e, ex.1⟩, fun a e2 => ?_⟩
      cases e2
      exact ⟨o, e, ex.2.1⟩
  | _ => exact False.elim ty
def tBM0 (K : PySem.W.Frag) (T : String) (r : V → List V → Hp → VK → Prop) (to : TE) : TE := fun σ H Q => to σ H fun x H1 => tyV K T x H1 ∧ r x [] H1 Q
def tBM (K : PySem.W.Frag) (T : String) (r : V → List V → Hp → VK → Prop) (to : TE) (t : TA) : TE := fun σ H Q => to σ H fun x H1 => tyV K T x H1 ∧ t σ H1 fun xs H2 => r x xs H2 Q
variable {o e : Expr} {es : List Expr} {to : TE} {t : TA} {name : Str} {apos cpos : Pos} {T id : String} {r : V → List V → Hp → VK → Prop}
theorem pe_bm0 (pa : PlainAttrs T) (slot : Slot T name id) (hty : typeOf (.builtin id) = pure (.type "method_descriptor")) (hm : MtR X id r) (ho : PE X o to)
    (hbase : attributeBase o name X.env (eval o X.env) = eval o X.env := by rfl) (hline : (apos.endLine == cpos.line) = true := by rfl) : PE X (.Call (.Attribute o name apos) [] [] cpos) (tBM0 X.K T r to) := by
  intro pins s σ H Q I h
  refine wpAny_Call_method0_late hbase hline (thn (ho pins s σ H _ I h) fun v s1 ⟨x, H1, I1, r1, ty, q1⟩ => ?_)
  obtain ⟨h1, h2⟩ := tyV_is I1 r1 ty
  exact ⟨T, id, pa, slot, hty, h1, h2, Calls.callWith_builtin rfl (PySem.evalArgs_none (hm pins s1 σ H1 x [] v [] Q I1 r1 .nil q1))⟩
theorem pe_bm (pa : PlainAttrs T) (slot : Slot T name id) (hty : typeOf (.builtin id) = pure (.type "method_descriptor")) (hm : MtR X id r) (ho : PE X o to) (ha : PA X (e :: es) t)
    (hbase : attributeBase o name X.env (eval o X.env) = eval o X.env := by rfl)
    (hfew : ((backTo cpos (starEach (e :: es) X.env)).all (fun x => !x.1) && (backToKw cpos (keywordEach [] X.env)).all (fun x => x.1.isSome)
      && decide ((e :: es).length + ([] : List Keyword).length + (if ([] : List Keyword).isEmpty then 0 else 1) < 30)) = true := by rfl)
    (hline : (apos.endLine == cpos.line) = true := by rfl) (hs : starEach (e :: es) X.env = (false, eval e X.env) :: starEach es X.env := by rfl) (hplain : (backTo cpos (starEach es X.env)).any (·.1) = false := by rfl) :
    PE X (.Call (.Attribute o name apos) (e :: es) [] cpos) (tBM X.K T r to t) := by
  intro pins s σ H Q I h
  refine wpAny_Call_method_late hbase hfew hline rfl (thn (ho pins s σ H _ I h) fun v s1 ⟨x, H1, I1, r1, ty, q1⟩ => ?_)
  obtain ⟨h1, h2⟩ := tyV_is I1 r1 ty
  refine ⟨T, id, pa, slot, hty, h1, h2, ?_⟩
  have hA := ha cpos pins s1 σ H1 _ I1 q1
  rw [hs] at hA ⊢
  refine Calls.callWith_builtin (by show (false || (backTo cpos (starEach es X.env)).any (·.1)) = false; rw [hplain] <;> rfl) (Calls.evalArgs_plain ?_)
  exact thn hA fun us s2 ⟨vs, H2, I2, r2, q2⟩ => hm pins s2 σ H2 x vs v us Q I2 r1 r2 q2
/- xs.append(e), list.index on a module's tuple .. are MtR facts of 06m -/
end
end L2

namespace L2
open PySem PySem.Spec PyProof.Rows

def MtM (X : Cx) (id : String) (r : V → List V → Hp → VK → Prop) : Prop :=
  ∀ (pins : List (Addr × Obj)) (s : Shared) (σ : St) (H : Hp) (x : V) (xs : List V) (v : Value) (us : List Value) (Q : VK), Inv X pins σ H s → RelV x v → Vals xs us → r x xs H Q →
    wpAny (model X.prog X.w) X.A (call (.builtin id) (v :: us)) (EP X pins σ Q) X.xe s

/-! ### lists of values -/
theorem Vals.one : ∀ {x : V} {us : List Value}, Vals [x] us → ∃ u, us = [u] ∧ RelV x u
  | _, _, .cons r .nil => ⟨_, rfl, r⟩
theorem Vals.zero : ∀ {us : List Value}, Vals [] us → us = []
  | _, .nil => rfl
theorem Vals.dropLast {xs : List V} {us : List Value} (h : Vals xs us) : Vals xs.dropLast us.dropLast := by
  induction h with
  | nil => exact .nil
  | cons r t ih =>
    cases t with
    | nil => exact .nil
    | cons q t' => exact .cons r ih
theorem Vals.eraseIdx : ∀ {xs : List V} {us : List Value} (i : Nat), Vals xs us → Vals (xs.eraseIdx i) (us.eraseIdx i)
  | _, _, _, .nil => .nil
  | _, _, 0, .cons _ t => t
  | _, _, i + 1, .cons r t => .cons r (Vals.eraseIdx i t)
theorem erase_last {α : Type} (l : List α) : l.eraseIdx (l.length - 1) = l.dropLast := by
  induction l with
  | nil => rfl
  | cons a r ih =>
    cases r with
    | nil => rfl
    | cons b r =>
      have e : (a :: b :: r).length - 1 = ((b :: r).length - 1) + 1 := by
        have h1 : (a :: b :: r).length = r.length + 2 := rfl
        have h2 : (b :: r).length = r.length + 1 := rfl
        omega
      rw [e, List.eraseIdx_cons_succ, ih]
      all_goals rfl
theorem len_erase {α : Type} : ∀ (l : List α) (i : Nat), (l.eraseIdx i).length ≤ l.length
  | [], _ => Nat.le_refl _
  | _ :: _, 0 => Nat.le_succ _
  | _ :: r, i + 1 => Nat.succ_le_succ (len_erase r i)

section
variable {X : Cx} {pins : List (Addr × Obj)} {σ : St} {H : Hp} {s : Shared} {l b : Addr} {xs ys zs : List V}

/-! ### the two steps: a tracked list is rewritten, a new list is laid -/
theorem Inv.lset {its its' : List Value} {n : Nat} {f : Array Value → Array Value} {t' : Nat} (I : Inv X pins σ H s) (hH : H l = some (.lst xs))
    (e : s.heap.get? l = some { cls := .type "list", data := .seq its.toArray n }) (hf : f its.toArray = its'.toArray) (hv : Vals ys its') (hz : ys.length ≤ sizeLine) :
    Inv X pins σ (upd H l (.lst ys)) { s with heap := s.heap.update l (Obj.mapSeq f), toks := t' } := by
  have q := PySem.IsL.update e f
  rw [hf] at q
  refine I.write (x := l) (e := l) (by rw [hH]; exact trivial) (.inl rfl) (fun b' u hb hu => (Heap.get?_update_other s.heap (Obj.mapSeq f) (Ne.symm hb)).trans hu) ⟨_, q⟩ ?_
  exact ⟨hz, its', _, hv, q⟩
theorem Inv.lnew {its : List Value} {t' : Nat} (I : Inv X pins σ H s) (hv : Vals ys its) (hz : ys.length ≤ sizeLine) :
    Inv X pins σ (upd H s.heap.objs.size (.lst ys)) { s with heap := s.heap.push { cls := .type "list", data := .seq its.toArray }, toks := t' } :=
  I.laid (fun _ _ q => Heap.get?_push_of_some _ q) (Nat.le_refl _) ⟨hz, its, 0, hv, Heap.get?_push_size _ rfl⟩
theorem Inv.fresh (I : Inv X pins σ H s) : H s.heap.objs.size = none := I.hok.fresh (Nat.le_refl _)
theorem Inv.lstM (I : Inv X pins σ H s) (hH : H l = some (.lst xs)) : xs.length ≤ sizeLine ∧ ∃ (its : List Value) (n : Nat), Vals xs its ∧ xs.length = its.length ∧ s.heap.get? l = some { cls := .type "list", data := .seq its.toArray n } := by
  obtain ⟨z, its, n, r, e⟩ := I.hok l _ hH
  exact ⟨z, its, n, r, r.length, e⟩

theorem notLongL {n : Nat} (h : n ≤ sizeLine) : Builtin.List.listTooLong n = false := by
  unfold Builtin.List.listTooLong
  exact decide_eq_false (by omega)
end

section
variable {X : Cx}

/-! ### methods -/
def rAppend : V → List V → Hp → VK → Prop := fun x vs H Q => ∃ l xs y, x = .ref l ∧ vs = [y] ∧ H l = some (.lst xs) ∧ xs.length < sizeLine ∧ Q .non (upd H l (.lst (xs ++ [y])))
theorem mt_append : MtM X "list.append" rAppend := by
  intro pins s σ H x vs v us Q I rx rv h
  obtain ⟨l, xs, y, rfl, rfl, hH, hz, q⟩ := h
  cases rx
  obtain ⟨u, rfl, ru⟩ := rv.one
  obtain ⟨z, its, n, r, hl, e⟩ := I.lstM hH
  refine call_meets F.slot_list_append ⟨_, e, rfl⟩ F.entry_list_append (F.args_list_append_2 _ _) (PySem.list_append l its.toArray n u (by rw [List.size_toArray]; omega)) ⟨e, ?_⟩
  refine ⟨.non, _, I.lset (its' := its ++ [u]) hH e (by simp) (r.append (.cons ru .nil)) ?_, rfl, q⟩
  rw [List.length_append, List.length_singleton]
  omega

def rExtend : V → List V → Hp → VK → Prop := fun x vs H Q => ∃ l b xs zs, x = .ref l ∧ vs = [.ref b] ∧ H l = some (.lst xs) ∧ H b = some (.lst zs) ∧ xs.length + zs.length ≤ sizeLine ∧ Q .non (upd H l (.lst (xs ++ zs)))
theorem mt_extend : MtM X "list.extend" rExtend := by
  intro pins s σ H x vs v us Q I rx rv h
  obtain ⟨l, b, xs, zs, rfl, rfl, hH, hB, hz, q⟩ := h
  cases rx
  obtain ⟨u, rfl, ru⟩ := rv.one
  cases ru
  obtain ⟨z, its, n, r, hl, e⟩ := I.lstM hH
  obtain ⟨z2, its2, n2, r2, hl2, e2⟩ := I.lstM hB
  have hsz : its.toArray.size + its2.toArray.size ≤ sizeLine := by rw [List.size_toArray, List.size_toArray]; omega
  have hlong : ¬ (!its.toArray.isEmpty && Builtin.List.listTooLong (its.toArray.size + its2.toArray.size)) = true := by
    rw [notLongL hsz, Bool.and_false]
    exact Bool.false_ne_true
  refine call_meets F.slot_list_extend ⟨_, e, rfl⟩ F.entry_list_extend (F.args_list_extend_2 _ _)
    (AutoSeq1.list_extend_list_list_0 l its.toArray n b its2.toArray n2 hlong (by rw [List.size_toArray]; omega) (by omega)) ⟨e, e2, ?_⟩
  refine ⟨.non, _, I.lset (its' := its ++ its2) hH e (by simp) (r.append r2) ?_, rfl, q⟩
  rw [List.length_append]
  omega

def rPop : V → List V → Hp → VK → Prop := fun x vs H Q => ∃ l xs y, x = .ref l ∧ vs = [] ∧ H l = some (.lst xs) ∧ xs[xs.length - 1]? = some y ∧ Q y (upd H l (.lst xs.dropLast))
theorem mt_pop : MtM X "list.pop" rPop := by
  intro pins s σ H x vs v us Q I rx rv h
  obtain ⟨l, xs, y, rfl, rfl, hH, hy, q⟩ := h
  cases rx
  have hus := rv.zero
  subst hus
  obtain ⟨z, its, n, r, hl, e⟩ := I.lstM hH
  obtain ⟨u, hu, ru⟩ := r.get hy
  have hy' : its.toArray[its.toArray.size - 1]? = some u := by
    show its.toArray[its.length - 1]? = some u
    rw [← Array.getElem?_toList, ← hl]
    exact hu
  refine call_meets F.slot_list_pop ⟨_, e, rfl⟩ F.entry_list_pop (F.args_list_pop_1 _) (MeetsSeq.list_pop_last l its.toArray n u hy' (by rw [List.size_toArray]; omega)) ⟨e, ?_⟩
  refine ⟨y, _, I.lset (its' := its.dropLast) hH e ?_ r.dropLast ?_, ru, q⟩
  · show its.toArray.eraseIdxIfInBounds (its.toArray.size - 1) = its.dropLast.toArray
    rw [List.size_toArray, List.eraseIdxIfInBounds_toArray, erase_last]
  · rw [List.length_dropLast]
    omega

/-! ### list + list, list += list, list * int -/
def rCat : R2 := fun x y H Q => ∃ l b xs zs, x = .ref l ∧ y = .ref b ∧ H l = some (.lst xs) ∧ H b = some (.lst zs) ∧ xs.length + zs.length ≤ sizeLine ∧ ∀ p, H p = none → Q (.ref p) (upd H p (.lst (xs ++ zs)))
theorem op_cat : OpR X (binaryOp .Add) rCat := by
  intro pins s σ H x y v u Q I rx ry h
  obtain ⟨l, b, xs, zs, rfl, rfl, hH, hB, hz, q⟩ := h
  cases rx
  cases ry
  obtain ⟨z, its, n, r, hl, e⟩ := I.lstM hH
  obtain ⟨z2, its2, n2, r2, hl2, e2⟩ := I.lstM hB
  refine PySem.P.add_list e e2 ?_ (by rw [List.size_toArray, List.size_toArray]; omega)
  have ea : its.toArray ++ its2.toArray = (its ++ its2).toArray := by simp
  rw [ea]
  exact ⟨.ref _, _, I.lnew (t' := s.toks) (r.append r2) (by rw [List.length_append]; omega), rfl, q _ I.fresh⟩

/-! ### del xs[i] -/
end

/-! ### xs[a:b] = ys -/
section
variable {prog : Program} {w : World} {A : Around} {E : Value → Shared → Prop} {s : Shared}
set_option maxRecDepth 100000 in
end

section
variable {X : Cx}
end
end L2

namespace L2
open PySem PySem.Spec PyProof.Rows

theorem Vals.ints : ∀ {ns : List Int} {us : List Value}, Vals (ns.map V.int) us → IntsAre us ns
  | [], us, h => by
    rw [List.map_nil] at h
    cases h
    exact IntsAre.nil
  | n :: ns, us, h => by
    rw [List.map_cons] at h
    cases h with
    | cons r t =>
      obtain ⟨k, rfl⟩ := r
      exact IntsAre.cons n k (Vals.ints t)
theorem vals_of_ints : ∀ {us : List Value} {ns : List Int}, IntsAre us ns → Vals (ns.map V.int) us
  | _, _, .nil => by rw [List.map_nil]; exact Paired.nil
  | _, _, .cons n t h => by rw [List.map_cons]; exact Paired.cons (show RelV (V.int n) (Value.int n t) from ⟨t, rfl⟩) (vals_of_ints h)
theorem Vals.ref1 {a : Addr} {us : List Value} (r : Vals [V.ref a] us) : us = [Value.ref a] := by
  cases r with
  | cons r t =>
    cases t
    cases r
    rfl
theorem Vals.int2 {i j : Int} {us : List Value} (r : Vals [V.int i, V.int j] us) : ∃ t u, us = [Value.int i t, Value.int j u] := by
  cases r with
  | cons r t =>
    cases t with
    | cons r2 t2 =>
      cases t2
      obtain ⟨t, rfl⟩ := r
      obtain ⟨u, rfl⟩ := r2
      exact ⟨t, u, rfl⟩

/-! ### the library's walks over a list of ints, kept objects alone -/
section
variable {prog : Program} {w : World} {A : Around} {E : Value → Shared → Prop} {s : Shared} {l : Addr} {its : List Value} {ns : List Int} {Q : Value → Shared → Prop}
theorem sum_raw (hh : A.handled = none) (hl : s.heap.IsList l its.toArray) (hi : IntsAre its ns)
    (h : ∀ h' tk t', (∀ b o, s.heap.get? b = some o → h'.get? b = some o) → Q (.int ns.sum t') { s with heap := h', toks := tk }) : wpAny (model prog w) A (call (.builtin "sum") [.ref l]) Q E s := by
  obtain ⟨xs, e⟩ := hi.allInts.items
  have hn : numsOf (intItems xs).toList = ns := by rw [← e]; exact hi.numsOf
  rw [nums_intItems] at hn
  rw [e] at hl
  refine PySem.sum_intListG hh hl fun h' tk t' hk => ?_
  have := h h' tk t' hk
  rw [preSum_eq, List.take_of_length_le (by simp), hn]; exact this
end

/-! ### the calls, by values (CallR of 03t; MtR of 06l) -/
section
variable {X : Cx}
/-- sum(xs) of a list of ints -/
def rSum (K : PySem.W.Frag) : List V → Hp → VK → Prop := fun vs H Q => ∃ (a : Addr) (ns : List Int), vs = [V.ref a] ∧ SqL K H a (ns.map V.int) ∧ Q (.int ns.sum) H
theorem cr_sum (hc : X.calm = true) : CallR X (.builtin "sum") (rSum X.K) := by
  intro pins s σ H vs us Q I r h
  obtain ⟨a, ns, rfl, hs, q⟩ := h
  obtain ⟨its, rv, hl, _⟩ := I.list hs
  rw [Vals.ref1 r]
  exact sum_raw (I.ok.hd hc) hl.isList rv.ints fun h' tk t' hk => ⟨.int _, H, I.kept hk, ⟨_, rfl⟩, q⟩

/-! sorted, sort (fewer than 64 items: the library's own bound) -/
def rSorted (K : PySem.W.Frag) : List V → Hp → VK → Prop := fun vs H Q => ∃ (a : Addr) (ns : List Int), vs = [V.ref a] ∧ SqL K H a (ns.map V.int) ∧ ns.length < 64 ∧
  ∀ (ns' : List Int) (p : Addr), ns'.Perm ns → ns'.Pairwise (· ≤ ·) → H p = none → Q (.ref p) (upd H p (.lst (ns'.map V.int)))
theorem small64 {n : Nat} (h : n < 64) : n ≤ sizeLine := by rw [sizeLine_eq]; omega
theorem cr_sorted : CallR X (.builtin "sorted") (rSorted X.K) := by
  intro pins s σ H vs us Q I r h
  obtain ⟨a, ns, rfl, hs, h64, q⟩ := h
  obtain ⟨its, rv, hl, _⟩ := I.list hs
  rw [Vals.ref1 r]
  have hi := rv.ints
  refine PyProof.Rows.sorted_ints hl.isList hi (by rw [hi.length]; exact h64) fun out ns' h1 h2 h3 => ?_
  obtain ⟨ep, he'⟩ := PyProof.Rows.sortedAll_at s.heap its out
  have hlen : (ns'.map V.int).length ≤ sizeLine := by rw [List.length_map, h2.length_eq]; exact small64 h64
  exact ⟨.ref _, upd H (s.heap.objs.size + 1) (.lst (ns'.map V.int)), I.laid (t' := s.toks) (fun _ _ => PyProof.Rows.sortedAll_old) (Nat.le_succ _) ⟨hlen, out.toList, ep, vals_of_ints h1, he'⟩, rfl, q ns' _ h2 h3 (I.hok.fresh (Nat.le_succ _))⟩
end

/-! ### list.index, flat items -/
section
variable {X : Cx}
end

/-! ### type(x) of an own instance; is, is not of a module's class -/
section
variable {X : Cx}
end

/-! ### any(xs), all(xs) of a list of bools -/
section
variable {X : Cx}
end

/-! ### == and != of data at any depth: none, bools, ints, texts, lists, tuples -/
section
variable {X : Cx} {pins : List (Addr × Obj)} {σ : St} {H : Hp} {s : Shared}
end
section
variable {X : Cx}
end
end L2

namespace L2
open PySem PySem.Spec PyProof.Rows
abbrev CellAt (h : Heap) (c : Addr) (v : Option Value) : Prop := h.IsCell c v
def relS (scope sc : Scope) : Scope :=
  { scope with names := scope.names.map fun (n, k) => if (k == .free && sc.kind == .function && sc.names.lookup n == some .cell) then (n, .cell) else (n, k) }

def cloFrom (cells : List (Str × Addr)) : List (Str × NameKind) → List (Str × Addr) → List (Str × Addr)
  | [], acc => acc
  | (n, k) :: r, acc => if k == .free then cloFrom cells r ((n, (cells.lookup n).getD 0) :: acc) else cloFrom cells r acc

theorem closure_loop (env : Env) (f : Str × NameKind → List (Str × Addr) → Sem (ForInStep (List (Str × Addr))))
    (hf : ∀ n k c, f (n, k) c = if k == .free then (do let a ← cellOf env n; pure (.yield ((n, a) :: c))) else pure (.yield c)) :
    ∀ (names : List (Str × NameKind)) (acc : List (Str × Addr)), (∀ y ∈ names, y.2 = .free → ∃ c, env.cells.lookup y.1 = some c) → forIn names acc f = pure (cloFrom env.cells names acc)
  | [], acc, _ => by rw [List.forIn_nil]; rfl
  | (n, k) :: r, acc, h => by
    rw [List.forIn_cons, hf]
    have ih := fun acc => closure_loop env f hf r acc fun y hy => h y (List.mem_cons_of_mem _ hy)
    unfold cloFrom
    by_cases hk : (k == NameKind.free) = true
    · rw [if_pos hk, if_pos hk]
      obtain ⟨c, hc⟩ := h (n, k) List.mem_cons_self (by simpa using hk)
      have e : cellOf env n = pure c := by unfold cellOf; rw [hc]
      rw [e]
      have e2 : (env.cells.lookup n).getD 0 = c := by rw [hc]; rfl
      rw [e2]
      exact ih _
    · rw [if_neg hk, if_neg hk]
      exact ih _
theorem closure_ok {scope : Scope} {env : Env} (h : ∀ y ∈ scope.names, y.2 = .free → ∃ c, env.cells.lookup y.1 = some c) : closureFor scope env = pure (cloFrom env.cells scope.names []) := by
  simp only [closureFor]
  rw [closure_loop env _ (fun n k c => rfl) scope.names [] h]
  rfl

theorem mem_lookup {α : Type} : ∀ {l : List (Str × α)} {n : Str} {c : α}, (n, c) ∈ l → ∃ c', l.lookup n = some c'
  | (k, v) :: r, n, c, h => by
    rw [List.lookup_cons]
    cases hb : n == k with
    | true => exact ⟨_, rfl⟩
    | false =>
      rcases List.mem_cons.mp h with e | h
      · cases e; simp at hb
      · exact mem_lookup h

theorem cloFrom_mem {cells : List (Str × Addr)} : ∀ {names : List (Str × NameKind)} {acc : List (Str × Addr)} {n : Str} {c : Addr}, (n, c) ∈ cloFrom cells names acc → (n, c) ∈ acc ∨ ((n, .free) ∈ names ∧ c = (cells.lookup n).getD 0)
  | [], _, _, _, h => .inl h
  | (m, k) :: r, acc, n, c, h => by
    unfold cloFrom at h
    split at h
    · rename_i hk
      have hk : k = .free := by simpa using hk
      rcases cloFrom_mem h with h | ⟨h1, h2⟩
      · rcases List.mem_cons.mp h with e | h
        · cases e; exact .inr ⟨hk ▸ List.mem_cons_self, rfl⟩
        · exact .inl h
      · exact .inr ⟨List.mem_cons_of_mem _ h1, h2⟩
    · rcases cloFrom_mem h with h | ⟨h1, h2⟩
      · exact .inl h
      · exact .inr ⟨List.mem_cons_of_mem _ h1, h2⟩
theorem cloFrom_acc {cells : List (Str × Addr)} : ∀ {names : List (Str × NameKind)} {acc : List (Str × Addr)} {p : Str × Addr}, p ∈ acc → p ∈ cloFrom cells names acc
  | [], _, _, h => h
  | (m, k) :: r, acc, p, h => by
    unfold cloFrom
    split
    · exact cloFrom_acc (List.mem_cons_of_mem _ h)
    · exact cloFrom_acc h
theorem cloFrom_has {cells : List (Str × Addr)} : ∀ {names : List (Str × NameKind)} {acc : List (Str × Addr)} {n : Str}, (n, .free) ∈ names → (n, (cells.lookup n).getD 0) ∈ cloFrom cells names acc
  | (m, k) :: r, acc, n, h => by
    unfold cloFrom
    rcases List.mem_cons.mp h with e | h
    · cases e
      exact cloFrom_acc List.mem_cons_self
    · split
      · exact cloFrom_has h
      · exact cloFrom_has h

theorem cells_mem : ∀ {names : List (Str × NameKind)} {h : Heap} {acc : List (Str × Addr)} {x : Str} {c : Addr}, (x, c) ∈ cellsFrom h.objs.size names acc →
    (x, c) ∈ acc ∨ ((x, .cell) ∈ names ∧ h.objs.size ≤ c ∧ CellAt (pushCells h names) c none)
  | [], _, _, _, _, h => .inl h
  | (n, k) :: r, h, acc, x, c, hm => by
    unfold cellsFrom at hm
    unfold pushCells
    split at hm
    · rename_i hk
      rw [if_pos hk]
      have hk : k = .cell := by simpa using hk
      rw [← Heap.size_push h { cls := .type "cell", data := .cell none }] at hm
      rcases cells_mem hm with hm | ⟨h1, h2, h3⟩
      · rcases List.mem_cons.mp hm with e | hm
        · cases e
          exact .inr ⟨hk ▸ List.mem_cons_self, Nat.le_refl _, _, pushCells_keeps r _ _ _ (Heap.get?_push_size _ rfl), rfl⟩
        · exact .inl hm
      · rw [Heap.size_push] at h2
        exact .inr ⟨List.mem_cons_of_mem _ h1, Nat.le_of_succ_le h2, h3⟩
    · rename_i hk
      rw [if_neg hk]
      rcases cells_mem hm with hm | ⟨h1, h2, h3⟩
      · exact .inl hm
      · exact .inr ⟨List.mem_cons_of_mem _ h1, h2, h3⟩
theorem cells_acc : ∀ {names : List (Str × NameKind)} {n : Nat} {acc : List (Str × Addr)} {p : Str × Addr}, p ∈ acc → p ∈ cellsFrom n names acc
  | [], _, _, _, h => h
  | (m, k) :: r, n, acc, p, h => by
    unfold cellsFrom
    split
    · exact cells_acc (List.mem_cons_of_mem _ h)
    · exact cells_acc h
theorem cells_has : ∀ {names : List (Str × NameKind)} {n : Nat} {acc : List (Str × Addr)} {x : Str}, (x, .cell) ∈ names → ∃ c, (x, c) ∈ cellsFrom n names acc
  | (m, k) :: r, n, acc, x, h => by
    unfold cellsFrom
    rcases List.mem_cons.mp h with e | h
    · cases e
      exact ⟨n, cells_acc List.mem_cons_self⟩
    · split
      · exact cells_has h
      · exact cells_has h
theorem cells_inj : ∀ {names : List (Str × NameKind)} {h : Heap} {acc : List (Str × Addr)} {x y : Str} {c : Addr}, (∀ p ∈ acc, p.2 < h.objs.size) → (∀ x y c, (x, c) ∈ acc → (y, c) ∈ acc → x = y) →
    (x, c) ∈ cellsFrom h.objs.size names acc → (y, c) ∈ cellsFrom h.objs.size names acc → x = y
  | [], _, _, _, _, _, _, hi, h1, h2 => hi _ _ _ h1 h2
  | (n, k) :: r, h, acc, x, y, c, hl, hi, h1, h2 => by
    unfold cellsFrom at h1 h2
    split at h1
    · rename_i hk
      rw [if_pos hk] at h2
      rw [← Heap.size_push h { cls := .type "cell", data := .cell none }] at h1 h2
      refine cells_inj (h := h.push _) (fun p hp => ?_) (fun x y c a b => ?_) h1 h2
      · rw [Heap.size_push]
        rcases List.mem_cons.mp hp with rfl | hp
        · exact Nat.lt_succ_self _
        · exact Nat.lt_succ_of_lt (hl p hp)
      · rcases List.mem_cons.mp a with e | a <;> rcases List.mem_cons.mp b with e' | b
        · cases e; cases e'; rfl
        · cases e; exact absurd (hl _ b) (Nat.lt_irrefl _)
        · cases e'; exact absurd (hl _ a) (Nat.lt_irrefl _)
        · exact hi _ _ _ a b
    · rename_i hk
      rw [if_neg hk] at h2
      exact cells_inj hl hi h1 h2

theorem newEnv_comp {M : Model} {A : Around} {E : Value → Shared → Prop} {s : Shared} {scope : Scope} {globals : Addr} {closure : List (Str × Addr)} {qual : Str} {func : Option Addr} {code : Value} {around : Env} {builtins : Addr} {Q : Env → Shared → Prop}
    (h : Q (newEnv scope s.heap.objs.size globals (cellsFrom (s.heap.objs.size + 1) scope.names closure) qual func code (some around) builtins)
      { s with heap := pushCells (s.heap.push { cls := .type "dict", data := .dict #[] }) scope.names }) :
    wpAny M A (newFunctionEnv scope globals closure [] qual func code (some around) builtins) Q E s := by
  simp only [newFunctionEnv, Option.isSome_some, if_true]
  refine wpAny_bind (wpAny_alloc ?_)
  refine wpAny_bind (wpAny_layCells _ (fun n k c => rfl) scope.names closure _ _ ?_)
  rw [show ({ s with heap := s.heap.push { cls := .type "dict", data := .dict #[] } } : Shared).heap.objs.size = s.heap.objs.size + 1 from Heap.size_push ..]
  rw [List.forIn_nil]
  exact wpAny_bind (wpAny_pure (wpAny_pure h))

/-- every name of the written scope, in the scope that runs -/
theorem lookup_relS {sc : Scope} : ∀ {names : List (Str × NameKind)} {x : Str} {k : NameKind},
    (names.map fun (n, k) => if (k == NameKind.free && sc.kind == .function && sc.names.lookup n == some .cell) then (n, NameKind.cell) else (n, k)).lookup x = some k →
    ∃ k', names.lookup x = some k' ∧ (k = k' ∨ (k' = .free ∧ k = .cell))
  | [], _, _, h => by simp at h
  | (n, k₀) :: r, x, k, h => by
    have ih := @lookup_relS sc r x k
    have h' : List.lookup x ((if (k₀ == NameKind.free && sc.kind == .function && sc.names.lookup n == some .cell) = true then (n, NameKind.cell) else (n, k₀)) :: (r.map _)) = some k := h
    cases hx : x == n with
    | true =>
      simp only [List.lookup_cons, hx]
      by_cases hc : (k₀ == NameKind.free && sc.kind == .function && sc.names.lookup n == some .cell) = true
      · rw [if_pos hc] at h'
        simp only [List.lookup_cons, hx] at h'
        cases h'
        simp only [Bool.and_eq_true, beq_iff_eq] at hc
        exact ⟨k₀, rfl, .inr ⟨hc.1.1, rfl⟩⟩
      · rw [if_neg hc] at h'
        simp only [List.lookup_cons, hx] at h'
        cases h'
        exact ⟨_, rfl, .inl rfl⟩
    | false =>
      simp only [List.lookup_cons, hx]
      by_cases hc : (k₀ == NameKind.free && sc.kind == .function && sc.names.lookup n == some .cell) = true
      · rw [if_pos hc] at h'
        simp only [List.lookup_cons, hx] at h'
        exact ih h'
      · rw [if_neg hc] at h'
        simp only [List.lookup_cons, hx] at h'
        exact ih h'

/-- the names of a comprehension's block: its own (with their places in N), or captured -/
structure BlkOk (N : List Str) (sc scope : Scope) (own : List (Str × Nat)) : Prop where
  kind : scope.kind = .function
  uniq : ∀ y ∈ scope.names, scope.names.lookup y.1 = some y.2
  ix : ∀ p ∈ own, N[p.2]? = some p.1
  free : ∀ y ∈ scope.names, y.2 = .free → sc.names.lookup y.1 = some .cell ∨ sc.names.lookup y.1 = some .free
  own : ∀ y ∈ scope.names, y.2 = .local ∨ y.2 = .cell → y.1 ∈ own.map (·.1) ∨ y.1 ∉ N
/-- the slots of the block's own names forgotten -/
def wipe (σ : St) : List Nat → St
  | [] => σ
  | v :: vs => (wipe σ vs).set v none
theorem wipe_length (σ : St) : ∀ vs : List Nat, (wipe σ vs).length = σ.length
  | [] => rfl
  | v :: vs => by unfold wipe; rw [List.length_set, wipe_length σ vs]
theorem wipe_some {σ : St} {i : Nat} {x : V} : ∀ {vs : List Nat}, (wipe σ vs)[i]? = some (some x) → σ[i]? = some (some x) ∧ i ∉ vs
  | [], h => ⟨h, by simp⟩
  | v :: vs, h => by
    unfold wipe at h
    by_cases hi : v = i
    · subst hi
      by_cases hv : v < (wipe σ vs).length
      · rw [List.getElem?_set_self hv] at h; cases h
      · rw [List.getElem?_eq_none (by simpa using hv)] at h; cases h
    · rw [List.getElem?_set_ne hi] at h
      obtain ⟨h1, h2⟩ := wipe_some h
      exact ⟨h1, by simp only [List.mem_cons, not_or]; exact ⟨fun e => hi e.symm, h2⟩⟩

/-- the context of a block that starts at s, its iterator's objects at fp -/
abbrev Cx.blk (X : Cx) (s : Shared) (H : Hp) (scope : Scope) (cenv : Env) (fp : List Addr) : Cx := { X with s_0 := s, H_0 := H, env := cenv, outer := X.stack, ex := fp, fn := fun x => scope.names.lookup x == some .cell, pn := [], xe := fun _ _ => False }
section
variable {X : Cx} {pins : List (Addr × Obj)} {σ : St} {H : Hp} {s : Shared}
theorem block_start {scope : Scope} {own : List (Str × Nat)} {fp : List Addr} (I : Inv X pins σ H s) (ok : BlkOk X.N X.env.scope scope own) (hN : X.N.Nodup) (hfp : ∀ b ∈ fp, FpOk X pins H b ∧ b < s.heap.objs.size) :
    Inv (X.blk s H scope (compEnvC scope (cellsFrom (s.heap.objs.size + 1) scope.names (cloFrom X.env.cells scope.names [])) s.heap.objs.size X.env) fp) [] (wipe σ (own.map (·.2))) H { s with heap := pushCells (s.heap.push { cls := .type "dict", data := .dict #[] }) scope.names } := by
  have hfree : ∀ y ∈ scope.names, y.2 = .free → ∃ c, X.env.cells.lookup y.1 = some c := fun y hy e => by
    rcases ok.free y hy e with k | k
    · exact I.ok.has _ (.inl k)
    · exact I.ok.has _ (.inr k)
  generalize hcenv : compEnvC scope (cellsFrom (s.heap.objs.size + 1) scope.names (cloFrom X.env.cells scope.names [])) s.heap.objs.size X.env = cenv
  have kp : ∀ b o, s.heap.get? b = some o → (pushCells (s.heap.push { cls := .type "dict", data := .dict #[] }) scope.names).get? b = some o := fun b o e => pushCells_keeps _ _ _ _ (Heap.get?_push_of_some _ e)
  have hL : cenv.locals = s.heap.objs.size := by rw [← hcenv]; rfl
  have hcl : cenv.cells = cellsFrom (s.heap.objs.size + 1) scope.names (cloFrom X.env.cells scope.names []) := by rw [← hcenv]; rfl
  have hsc : cenv.scope = relS scope X.env.scope := by rw [← hcenv]; rfl
  rw [← Heap.size_push s.heap { cls := .type "dict", data := .dict #[] }] at hcl
  have cm : ∀ {y c}, (y, c) ∈ cloFrom X.env.cells scope.names [] → X.env.cells.lookup y = some c ∧ c < s.heap.objs.size := fun {y c} hm => by
    rcases cloFrom_mem hm with hm | ⟨h1, rfl⟩
    · cases hm
    · obtain ⟨c, hc⟩ := hfree _ h1 rfl
      rw [hc]
      obtain ⟨w, z⟩ := I.cell _ _ hc
      exact ⟨rfl, z.lt⟩
  have mem : ∀ {y c}, cenv.cells.lookup y = some c → (X.env.cells.lookup y = some c ∧ c < s.heap.objs.size) ∨ (s.heap.objs.size + 1 ≤ c ∧ CellAt (pushCells (s.heap.push { cls := .type "dict", data := .dict #[] }) scope.names) c none) := fun {y c} e => by
    rw [hcl] at e
    rcases cells_mem (PySem.mem_of_lookup e) with hm | ⟨_, h2, h3⟩
    · exact .inl (cm hm)
    · rw [Heap.size_push] at h2; exact .inr ⟨h2, h3⟩
  have look : ∀ {y}, scope.names.lookup y = some .free → ∃ c, cenv.cells.lookup y = some c ∧ X.env.cells.lookup y = some c := fun {y} hl => by
    have hy : (y, NameKind.free) ∈ scope.names := PySem.mem_of_lookup hl
    obtain ⟨c', e'⟩ := mem_lookup (cells_acc (names := scope.names) (n := (s.heap.push { cls := .type "dict", data := .dict #[] }).objs.size) (cloFrom_has (cells := X.env.cells) (acc := []) hy))
    rw [← hcl] at e'
    refine ⟨c', e', ?_⟩
    rw [hcl] at e'
    rcases cells_mem (PySem.mem_of_lookup e') with hm | ⟨h1, _, _⟩
    · exact (cm hm).1
    · have := ok.uniq _ h1
      rw [hl] at this; cases this
  have okB : (X.blk s H scope cenv fp).Ok := by
    refine ⟨I.ok.mod, by show cenv.scope.kind = _; rw [hsc]; exact ok.kind, by show cenv.globals = _; rw [← hcenv]; exact I.ok.glob, by show cenv.builtins = _; rw [← hcenv]; exact I.ok.blt, by show s.heap.objs.size ≤ cenv.locals; rw [hL]; exact Nat.le_refl _,
      fun y z c e1 e2 => ?_, fun y hy => ?_, fun y c z e => ?_, I.ok.hd, I.ok.frames, .inl rfl, fun b hb => ⟨?_, fun y c e z => ?_⟩, I.bs, Nat.le_trans I.ok.bsz I.sz, fun b o e hb => ?_, fun b hb z => ?_, I.stack, I.stkFree⟩
    · have e1 : cenv.cells.lookup y = some c := e1
      have e2 : cenv.cells.lookup z = some c := e2
      rw [hcl] at e1 e2
      refine cells_inj (fun p hp => ?_) (fun y z c a b => I.ok.inj y z c (cm a).1 (cm b).1) (PySem.mem_of_lookup e1) (PySem.mem_of_lookup e2)
      rw [Heap.size_push]
      exact Nat.lt_succ_of_lt (cm (y := p.1) (c := p.2) hp).2
    · show ∃ c, cenv.cells.lookup y = some c
      have key : ∀ k, cenv.kindOf y = some k → (k = .cell ∨ k = .free) → ∃ c, cenv.cells.lookup y = some c := fun k hk hk' => by
        unfold Env.kindOf at hk
        rw [hsc] at hk
        obtain ⟨k', e, r⟩ := lookup_relS hk
        have : k' = .cell ∨ k' = .free := by
          rcases r with rfl | ⟨rfl, _⟩
          · exact hk'
          · exact .inr rfl
        rcases this with rfl | rfl
        · obtain ⟨c, hm⟩ := cells_has (n := (s.heap.push { cls := .type "dict", data := .dict #[] }).objs.size) (acc := cloFrom X.env.cells scope.names []) (PySem.mem_of_lookup e)
          obtain ⟨c', e'⟩ := mem_lookup hm
          exact ⟨c', by rw [hcl]; exact e'⟩
        · obtain ⟨c, h1, _⟩ := look e
          exact ⟨c, h1⟩
      rcases hy with hy | hy
      · exact key _ hy (.inl rfl)
      · exact key _ hy (.inr rfl)
    · have z : (scope.names.lookup y == some NameKind.cell) = true := z
      have z : scope.names.lookup y = some .cell := by simpa using z
      have e : cenv.cells.lookup y = some c := e
      rw [hcl] at e
      rcases cells_mem (PySem.mem_of_lookup e) with hm | ⟨_, h2, _⟩
      · rcases cloFrom_mem hm with hm | ⟨h1, _⟩
        · cases hm
        · have q := ok.uniq _ h1
          rw [z] at q; cases q
      · rw [Heap.size_push] at h2
        exact Nat.le_of_succ_le h2
    · show b ≠ cenv.locals
      rw [hL]; exact Nat.ne_of_lt (hfp b hb).2
    · have e : cenv.cells.lookup y = some c := e
      rcases mem e with ⟨h1, _⟩ | ⟨h1, _⟩
      · exact (hfp b hb).1.2.2.2.2.1 y c h1 z
      · have h2 : s.heap.objs.size + 1 ≤ b := by rw [← z]; exact h1
        exact absurd (Nat.lt_of_lt_of_le (hfp b hb).2 (Nat.le_of_succ_le h2)) (Nat.lt_irrefl _)
    · rcases (hfp b hb).1.2.2.2.1 with z | z
      · exact I.ok.noex b o e z
      · exact absurd (Nat.lt_of_lt_of_le (Heap.lt_size e) (Nat.le_trans I.ok.bsz z)) (Nat.lt_irrefl _)
    · rcases List.mem_cons.mp (I.stkSub b z) with z | z
      · exact (hfp b hb).1.2.1 z
      · exact (hfp b hb).1.2.2.1 z
  refine ⟨okB, rfl, I.bare, Un.kept kp, ⟨fun _ => none, ?_, fun i y av e1 e2 e3 => ?_⟩, fun y c e => ?_, ?_, fun y c e => ?_, fun p hp => ?_, I.hok.kept kp, by rw [wipe_length]; exact I.len⟩
  · show Heap.Ns _ cenv.locals _
    rw [hL]
    exact Heap.Ns.keeps (Heap.Ns.new ..) fun b o e => pushCells_keeps _ _ _ _ e
  · obtain ⟨e2, hne⟩ := wipe_some e2
    have hfr : scope.names.lookup y = some .free ∧ (cenv.kindOf y = some .cell ∨ cenv.kindOf y = some .free) := by
      have key : ∀ k, cenv.scope.names.lookup y = some k → k = .local ∨ k = .cell ∨ k = .free → scope.names.lookup y = some .free ∧ (cenv.kindOf y = some .cell ∨ cenv.kindOf y = some .free) := fun k hk hk' => by
        have hk0 := hk
        rw [hsc] at hk
        obtain ⟨k', e, r⟩ := lookup_relS hk
        have no : ¬ (k' = .local ∨ k' = .cell) := fun hh => by
          rcases ok.own _ (PySem.mem_of_lookup e) hh with e' | e'
          · obtain ⟨p, hp, hpy⟩ := List.mem_map.mp e'
            have e3 := ok.ix p hp
            have : p.1 = y := hpy
            rw [this] at e3
            exact hne (List.mem_map.mpr ⟨p, hp, nodup_ix hN e3 e1⟩)
          · exact e' (List.mem_of_getElem? e1)
        rcases r with rfl | ⟨rfl, rfl⟩
        · rcases hk' with rfl | rfl | rfl
          · exact absurd (.inl rfl) no
          · exact absurd (.inr rfl) no
          · exact ⟨e, .inr hk0⟩
        · exact ⟨e, .inl hk0⟩
      have e3 : Vis cenv.scope y := e3
      rcases e3 with e3 | e3 | e3
      · exact key _ e3 (.inl rfl)
      · exact key _ e3 (.inr (.inl rfl))
      · exact key _ e3 (.inr (.inr rfl))
    obtain ⟨m, hn, hl⟩ := I.loc
    have hvis : Vis X.env.scope y := (ok.free _ (PySem.mem_of_lookup hfr.1) rfl).elim (fun k => .inr (.inl k)) (fun k => .inr (.inr k))
    obtain ⟨w, r, q⟩ := hl i y av e1 e2 hvis
    refine ⟨w, r, .inr ⟨hfr.2, ?_⟩⟩
    obtain ⟨c, h1, h2⟩ := look hfr.1
    rcases q with ⟨k, _⟩ | ⟨_, c', e', z⟩
    · have k : X.env.scope.names.lookup y = some .local := k
      rcases ok.free _ (PySem.mem_of_lookup hfr.1) rfl with k' | k' <;> rw [show X.env.scope.names.lookup y = _ from k'] at k <;> cases k
    · rw [h2] at e'; cases e'
      exact ⟨c, h1, z.keeps kp⟩
  · have e : cenv.cells.lookup y = some c := e
    rcases mem e with ⟨h1, _⟩ | ⟨_, z⟩
    · obtain ⟨w, z⟩ := I.cell y c h1
      exact ⟨w, z.keeps kp⟩
    · exact ⟨_, z⟩
  · show H cenv.locals = none
    rw [hL]; exact I.hok.fresh (Nat.le_refl _)
  · have e : cenv.cells.lookup y = some c := e
    rcases mem e with ⟨h1, _⟩ | ⟨h1, _⟩
    · exact I.freeC y c h1
    · exact I.hok.fresh (Nat.le_of_succ_le h1)
  · exact absurd (show p ∈ ([] : List (Addr × Obj)) ++ [] from hp) (by simp)

/-- an item appended to a tracked list -/
theorem app_ok {E : Value → Shared → Prop} {D : Addr} {xs : List V} {y : V} {v : Value} {Q : Value → Shared → Prop} (I : Inv X pins σ H s) (hD : H D = some (.lst xs)) (hz : xs.length < sizeLine) (r : RelV y v)
    (h : ∀ s', Inv X pins σ (upd H D (.lst (xs ++ [y]))) s' → Q .none s') : wpAny (model X.prog X.w) X.A (call (.builtin "list.append") [.ref D, v]) Q E s := by
  obtain ⟨hz', its, n, ri, e⟩ := I.hok D _ hD
  have hl := ri.length
  refine append_at (hsz := by rw [List.size_toArray]; omega) e fun h' sb ho' => ?_
  refine h { s with heap := h' } (I.write (t' := s.toks) (by rw [hD]; trivial) (.inl rfl) (fun b u hb q => (sb.2 b hb).trans q) ⟨_, ho'⟩ ⟨by rw [List.length_append]; exact hz, its ++ [v], n + 1, ri.append (.cons r .nil), ?_⟩)
  rw [ho']
  simp

/-- a clause's tests -/
def PTs (X : Cx) (ifs : List Expr) (t : TT) : Prop :=
  ∀ (pins : List (Addr × Obj)) (s : Shared) (σ : St) (H : Hp) (Q : Bool → Hp → Prop), Inv X pins σ H s → t σ H Q →
    wpAny (model X.prog X.w) X.A (forIn ifs true fun c r => if r = true then do let ok ← isTrue c X.env (eval c X.env); pure (ForInStep.yield ok) else pure (ForInStep.yield r)) (TP X pins σ Q) X.xe s
def tYes : TT := fun _ H Q => Q true H
theorem pts_nil : PTs X [] tYes := fun _ _ _ H _ I h => wpAny_tests_nil ⟨H, I, h⟩
theorem pts_one {c : Expr} {t : TT} (h : PT X c t) : PTs X [c] t := fun pins s σ H Q I hw => wpAny_tests_one (h pins s σ H Q I hw)
end

theorem thnF {α : Type} {t : Sem α} {Q Q' : α → Shared → Prop} {M : Model} {A : Around} {E : Value → Shared → Prop} {s : Shared} (h : wpAny M A t Q (fun _ _ => False) s) (hQ : ∀ a s, Q a s → Q' a s) : wpAny M A t Q' E s := wpAny_mono h hQ fun _ _ z => False.elim z

/-- the loop of a list comprehension's block, the target of any form (codeAny_compLoop_tests asks a target that no tuple goes to; statement and proof follow it, PyProof/CompMap.lean:41-61, with the step letOwnedTupleGo kept) -/
theorem compLoop_any {prog : Program} {w : World} {A : Around} {R : Result → Shared → Prop} {s : Shared} {elt target iter : Expr} {ifs : List Expr} {scope : Scope} {pos : Pos} {it acc : Value} {env : Env} (I : Nat → Shared → Prop)
    (turn : ∀ n s, I n s → wpAny (model prog w) A (pyNext it) (fun r s₁ => match r with
      | none => R (.ok .next) s₁
      | some v => wpAny (model prog w) A (letOwnedTupleGo target it v) (fun _ s₁' => wpAny (model prog w) A (assign target env v) (fun _ s₂ =>
          wpAny (model prog w) A (forIn ifs true fun c r => if r = true then do let ok ← isTrue c env (eval c env); pure (ForInStep.yield ok) else pure (ForInStep.yield r)) (fun ok s₃ =>
            if ok = true then wpAny (model prog w) A (eval elt env) (fun x s₄ =>
              wpAny (model prog w) A (call (.builtin "list.append") [acc, x]) (fun _ s₅ => ∃ m, m < n ∧ I m s₅) (notedBy (model prog w) A env fun e s' => R (.error e) s') s₄) (notedBy (model prog w) A env fun e s' => R (.error e) s') s₃
            else ∃ m, m < n ∧ I m s₃) (notedBy (model prog w) A env fun e s' => R (.error e) s') s₂) (notedBy (model prog w) A env fun e s' => R (.error e) s') s₁') (notedBy (model prog w) A env fun e s' => R (.error e) s') s₁) (notedBy (model prog w) A env fun e s' => R (.error e) s') s)
    (n : Nat) (h : I n s) :
    codeAny (model prog w) A (.compLoop (.ListComp elt [⟨target, iter, ifs, 0⟩] scope pos) 0 it acc env) R s := by
  refine codeAny_loop rfl I (fun n s hI => ?_) n h
  show wpAny _ A ((compTurn (.ListComp elt [⟨target, iter, ifs, 0⟩] scope pos) 0 it acc env).onRaise (fun x => do noteFrame x env; theTreesLotGoes x)) _ _ s
  refine wpAny_noted ?_
  rw [compTurn_list]
  refine wpAny_bind (wpAny_standAt (wpAny_bind (wpAny_mono (turn n s hI) (fun r s₁ h₁ => ?_) fun _ _ h' => h')))
  cases r with
  | none => exact wpAny_pure h₁
  | some v =>
    refine wpAny_bind (wpAny_mono h₁ (fun _ s₁' h₁' => ?_) fun _ _ h' => h')
    refine wpAny_bind (wpAny_mono h₁' (fun _ s₂ h₂ => wpAny_bind (wpAny_mono h₂ (fun ok s₃ h₃ => ?_) fun _ _ h' => h')) fun _ _ h' => h')
    cases ok with
    | false => exact wpAny_pure ⟨rfl, h₃⟩
    | true =>
      exact wpAny_bind (wpAny_bind (wpAny_mono h₃ (fun x s₄ h₄ => wpAny_bind (wpAny_mono h₄ (fun _ s₅ h₅ => wpAny_pure (wpAny_pure ⟨rfl, h₅⟩)) fun _ _ h' => h')) fun _ _ h' => h'))

section
variable {X : Cx}
/-- [elt for target in iter if ..]: D the new list; W by the turn and a measure, Nx what a turn is to reach -/
def tLc (wi : TI) (g : TG) (tt : TT) (te : TE) (vs : List Nat) : TE := fun σ H Q => wi σ H fun J H1 => ∀ D, H1 D = none → ∃ W : Nat → Nat → Hp → Prop, (∃ m, W 0 m (upd H1 D (.lst []))) ∧ ∀ i m H, W i m H →
  (J.stop i H ∧ Q (.ref D) H) ∨ (J.go i H ∧ ∃ Nx : Hp → Prop, (∀ H', Nx H' → ∃ m', m' < m ∧ W (i + 1) m' H') ∧ ∀ x H', J.yld i H x H' → g x (wipe σ vs) H' fun σ2 H2 => wipe σ2 vs = wipe σ vs ∧ tt σ2 H2 fun b H3 =>
    if b = true then te σ2 H3 fun y H4 => ∃ acc, H4 D = some (.lst acc) ∧ acc.length < sizeLine ∧ Nx (upd H4 D (.lst (acc ++ [y]))) else Nx H3)
theorem lc_core {pins : List (Addr × Obj)} {s : Shared} {σ : St} {H : Hp} {Q : VK} {elt tg iter : Expr} {ifs : List Expr} {scope : Scope} {own : List (Str × Nat)} {pos pos' : Pos} {wi : TI} {g : TG} {tt : TT} {te : TE} {use : Option (Value → Sem Unit)} {Qf : Value → Shared → Prop}
    (hc : X.calm = true) (hN : X.N.Nodup) (I : Inv X pins σ H s) (hi : PI X tg iter wi) (ok : BlkOk X.N X.env.scope scope own)
    (hg : ∀ (s : Shared) (H : Hp) (C : Addr) (cl : List (Str × Addr)) (fp : List Addr), PG (X.blk s H scope (compEnvC scope cl C X.env) fp) tg g) (ht : ∀ (s : Shared) (H : Hp) (C : Addr) (cl : List (Str × Addr)) (fp : List Addr), PTs (X.blk s H scope (compEnvC scope cl C X.env) fp) ifs tt)
    (he : ∀ (s : Shared) (H : Hp) (C : Addr) (cl : List (Str × Addr)) (fp : List Addr), PE (X.blk s H scope (compEnvC scope cl C X.env) fp) elt te) (hs : ∀ x, foldedSetIterable iter X.env x = pure x)
    (h : tLc wi g tt te (own.map (·.2)) σ H Q)
    (hRR : ∀ D C s' m H', Inv X pins σ H' s' → Q (.ref D) H' → s'.heap.Ns C m → FpOk X pins H' C → compPost (model X.prog X.w) X.A X.xe use Qf (.ref D) C (.ok .next) s') :
    wpAny (model X.prog X.w) X.A (comprehension (.ListComp elt [⟨tg, iter, ifs, 0⟩] scope pos) scope X.env pos' (newList []) false (eval iter X.env) use) Qf X.xe s := by
  have hfree : ∀ y ∈ scope.names, y.2 = .free → ∃ c, X.env.cells.lookup y.1 = some c := fun y hy e => by
    rcases ok.free y hy e with k | k
    · exact I.ok.has _ (.inl k)
    · exact I.ok.has _ (.inr k)
  refine wpAny_comprehension_free (use := use) rfl hs (closure_ok hfree) ok.kind (fun y hy e => by rw [ok.uniq y hy, e])
    (thn (hi pins s σ H _ I h) fun xv s1 hx => thn hx fun itv s2 h2 => ?_)
  obtain ⟨it, fp, tn, J, H2, e, I2, T, st2, f2, q⟩ := h2
  subst e
  refine wpAny_newObj_type (newEnv_comp ?_) (by show 0 ≤ sizeLine; decide)
  generalize hD : s2.heap.objs.size = D
  have hDn : H2 D = none := I2.hok.fresh (Nat.le_of_eq hD)
  obtain ⟨W, ⟨m0, w0⟩, turn⟩ := q D hDn
  -- the new list
  generalize hs3 : ({ s2 with heap := s2.heap.push { cls := .type "list", data := .seq ([] : List Value).toArray } } : Shared) = s3
  have I3 : Inv X pins σ (upd H2 D (.lst [])) s3 := by
    rw [← hs3]
    refine I2.laid (t' := s2.toks) (fun b o e => Heap.get?_push_of_some _ e) (Nat.le_of_eq hD) ⟨Nat.zero_le _, [], 0, .nil, ?_⟩
    rw [← hD]
    exact Heap.get?_push_size _ rfl
  have h3 : s3.heap = s2.heap.push { cls := .type "list", data := .seq ([] : List Value).toArray } := by rw [← hs3]
  have sz : ∀ b ∈ fp, b < s2.heap.objs.size := fun b hb => by
    obtain ⟨o, e, _⟩ := T.obj _ _ st2 b hb
    exact Heap.lt_size e
  have f3 : ∀ b ∈ fp, FpOk X pins (upd H2 D (.lst [])) b ∧ b < s3.heap.objs.size := fun b hb => by
    have hlt := sz b hb
    refine ⟨⟨?_, (f2 b hb).2⟩, by rw [h3, Heap.size_push]; exact Nat.lt_succ_of_lt hlt⟩
    rw [upd_ne (by rw [← hD]; exact Nat.ne_of_lt hlt)]
    exact (f2 b hb).1
  have st3 : tn 0 s3.heap := T.keep _ _ _ st2 fun b _ o e => by rw [h3]; exact Heap.get?_push_of_some _ e
  have I4 := block_start I3 ok hN f3
  have pg := hg s3 (upd H2 D (.lst [])) s3.heap.objs.size (cellsFrom (s3.heap.objs.size + 1) scope.names (cloFrom X.env.cells scope.names [])) fp
  have pt := ht s3 (upd H2 D (.lst [])) s3.heap.objs.size (cellsFrom (s3.heap.objs.size + 1) scope.names (cloFrom X.env.cells scope.names [])) fp
  have pe := he s3 (upd H2 D (.lst [])) s3.heap.objs.size (cellsFrom (s3.heap.objs.size + 1) scope.names (cloFrom X.env.cells scope.names [])) fp
  show codeAny _ _ (.compStart (.ListComp elt [⟨tg, iter, ifs, 0⟩] scope pos) 0 (.ref it) (.ref D) (compEnvC scope (cellsFrom (s3.heap.objs.size + 1) scope.names (cloFrom X.env.cells scope.names [])) s3.heap.objs.size X.env)) (compPost (model X.prog X.w) X.A X.xe use Qf (.ref D) s3.heap.objs.size) { s3 with heap := pushCells (s3.heap.push { cls := .type "dict", data := .dict #[] }) scope.names }
  have nfp : ∀ b ∈ fp, (upd H2 D (.lst [])) b = none := fun b hb => (f3 b hb).1.1
  generalize hce : compEnvC scope (cellsFrom (s3.heap.objs.size + 1) scope.names (cloFrom X.env.cells scope.names [])) s3.heap.objs.size X.env = ce at I4 pg pt pe ⊢
  have cL : ce.locals = s3.heap.objs.size := by subst hce; rfl
  generalize hH3 : upd H2 D (.lst []) = H3 at I3 I4 pg pt pe w0 nfp f3
  generalize hs4 : ({ s3 with heap := pushCells (s3.heap.push { cls := .type "dict", data := .dict #[] }) scope.names } : Shared) = s4 at I4 ⊢
  have st4 : tn 0 s4.heap := T.keep _ _ _ st3 fun b _ o e => by rw [← hs4]; exact pushCells_keeps _ _ _ _ (Heap.get?_push_of_some _ e)
  have stat : ∀ {σ' : St} {H' : Hp} {s' : Shared}, Inv (X.blk s3 H3 scope ce fp) [] σ' H' s' → (∀ b ∈ fp, H' b = none) → ∀ b ∈ fp, FpOk (X.blk s3 H3 scope ce fp) [] H' b := fun {σ' H' s'} I' hn b hb =>
    ⟨hn b hb, (I'.ok.exf b hb).1, I'.ok.exfs b hb, .inl hb, fun x c e => (I'.ok.exf b hb).2 x c e, fun p hp => absurd (show p ∈ ([] : List (Addr × Obj)) ++ [] from hp) (by simp)⟩
  have loop : codeAny (model X.prog X.w) X.A (.compLoop (.ListComp elt [⟨tg, iter, ifs, 0⟩] scope pos) 0 (.ref it) (.ref D) ce) (compPost (model X.prog X.w) X.A X.xe use Qf (.ref D) s3.heap.objs.size) s4 := by
    refine compLoop_any (fun n s' => ∃ i H', Inv (X.blk s3 H3 scope ce fp) [] (wipe σ (own.map (·.2))) H' s' ∧ tn i s'.heap ∧ (∀ b ∈ fp, H' b = none) ∧ W i n H') ?_ m0 ⟨0, H3, I4, st4, nfp, w0⟩
    rintro n s5 ⟨i, H5, I5, st5, n5, w5⟩
    rcases turn i n H5 w5 with ⟨stop, qq⟩ | ⟨go, Nx, hNx, step⟩
    · have td := T.done (X.blk s3 H3 scope ce fp) rfl rfl rfl hc i [] s5 _ H5 (fun _ _ => False) I5 (stat I5 n5) st5 stop
      refine thnF td fun r s6 ⟨hr, I6⟩ => ?_
      subst hr
      -- back in the def's context
      have I7 : Inv X pins σ H5 s6 := I3.call' (ch := fp) I6.os I6.base I6.hok I6.bare fun b hb => ⟨(f3 b hb).1.2.2.2.1, (f3 b hb).1.2.1, (f3 b hb).1.2.2.2.2.1, (f3 b hb).1.2.2.2.2.2⟩
      have nC : H5 s3.heap.objs.size = none := by
        have z : H5 ce.locals = none := I6.free
        rw [cL] at z
        exact z
      obtain ⟨m, hn, _⟩ := I6.loc
      have hn : s6.heap.Ns ce.locals m := hn
      rw [cL] at hn
      exact hRR D s3.heap.objs.size s6 m H5 I7 qq hn (I3.fpOk (Nat.le_refl _) nC)
    · have ti := T.item (X.blk s3 H3 scope ce fp) rfl rfl rfl hc i [] s5 _ H5 (fun _ _ => False) I5 (stat I5 n5) st5 go
      refine thnF ti fun r s6 ⟨u, hr, h6⟩ => ?_
      subst hr
      refine thnF h6 fun _ s7 ⟨x, H7, I7, r7, y7, st7, n7⟩ => ?_
      have I7' := I7.pinned (stat I7 n7) (T.obj _ _ st7)
      refine thnF (pg _ s7 _ H7 x u _ I7' r7 (step x H7 y7)) fun _ s8 ⟨σ8, H8, I8, hw8, q8⟩ => ?_
      refine thnF (pt _ s8 σ8 H8 _ I8 q8) fun b s9 ⟨H9, I9, q9⟩ => ?_
      -- the turn's end
      have fin : ∀ {s' : Shared} {H' : Hp}, Inv (X.blk s3 H3 scope ce fp) ([] ++ pinsAt fp s7.heap) σ8 H' s' → Nx H' → ∃ m, m < n ∧ ∃ i H', Inv (X.blk s3 H3 scope ce fp) [] (wipe σ (own.map (·.2))) H' s' ∧ tn i s'.heap ∧ (∀ b ∈ fp, H' b = none) ∧ W i m H' := fun {s' H'} I' nx => by
        obtain ⟨m', hm, w'⟩ := hNx H' nx
        have pin' : ∀ b ∈ fp, ∀ o, s7.heap.get? b = some o → s'.heap.get? b = some o ∧ H' b = none := fun b hb o e =>
          let z := I'.pin (b, o) (List.mem_append_right _ (List.mem_append_right _ (mem_pinsAt hb e)))
          ⟨z.1, z.2.1⟩
        have hl : (wipe σ (own.map (·.2))).length = σ8.length := by rw [← hw8, wipe_length]
        refine ⟨m', hm, i + 1, H', (I'.unpinned (pins := [])).weak hl (fun j v e => ?_), T.keep _ _ _ st7 fun b hb o e => (pin' b hb o e).1, fun b hb => ?_, w'⟩
        · rw [← hw8] at e
          exact (wipe_some e).1
        · obtain ⟨o, e, _⟩ := T.obj _ _ st7 b hb
          exact (pin' b hb o e).2
      cases b with
      | false =>
        simp only [Bool.false_eq_true, if_false] at q9 ⊢
        exact fin I9 q9
      | true =>
        simp only [if_true] at q9 ⊢
        refine thnF (pe _ s9 σ8 H9 _ I9 q9) fun z s10 ⟨yv, H10, I10, r10, acc, hD10, hz10, nx⟩ => ?_
        exact app_ok (X := X.blk s3 H3 scope ce fp) I10 hD10 hz10 r10 fun s11 I11 => fin I11 nx
  exact codeAny_compStart_list loop (T.self X.A 0 _ _ _ st4 loop)
/-- as a value -/
theorem pe_lc {elt tg iter : Expr} {ifs : List Expr} {scope : Scope} {own : List (Str × Nat)} {pos : Pos} {wi : TI} {g : TG} {tt : TT} {te : TE} (hc : X.calm = true) (hN : X.N.Nodup) (hi : PI X tg iter wi) (ok : BlkOk X.N X.env.scope scope own)
    (hg : ∀ (s : Shared) (H : Hp) (C : Addr) (cl : List (Str × Addr)) (fp : List Addr), PG (X.blk s H scope (compEnvC scope cl C X.env) fp) tg g) (ht : ∀ (s : Shared) (H : Hp) (C : Addr) (cl : List (Str × Addr)) (fp : List Addr), PTs (X.blk s H scope (compEnvC scope cl C X.env) fp) ifs tt)
    (he : ∀ (s : Shared) (H : Hp) (C : Addr) (cl : List (Str × Addr)) (fp : List Addr), PE (X.blk s H scope (compEnvC scope cl C X.env) fp) elt te) (hs : ∀ x, foldedSetIterable iter X.env x = pure x := by intro _; rfl) :
    PE X (.ListComp elt [⟨tg, iter, ifs, 0⟩] scope pos) (tLc wi g tt te (own.map (·.2))) := by
  intro pins s σ H Q I h
  rw [eval_ListComp]
  refine lc_core hc hN I hi ok hg ht he hs h fun D C s' m H' I' q hn f => ⟨m, hn, fun h'' sb => ?_⟩
  obtain ⟨f0, f1, f2, f3, f4, f5⟩ := f
  exact ⟨.ref D, H', I'.turned (t' := s'.toks) (fun b o hb e => (sb.2 b hb).trans e) f0 f1 f3 f4 f5, rfl, q⟩
/-- name = [..] on one line, the name a local -/
theorem ps_setLc {i : Nat} {y : Str} {py : Pos} {elt tg iter : Expr} {ifs : List Expr} {scope : Scope} {own : List (Str × Nat)} {pos spos : Pos} {wi : TI} {g : TG} {tt : TT} {te : TE} (hc : X.calm = true) (hN : X.N.Nodup) (hy : X.N[i]? = some y) (hyl : X.env.scope.names.lookup y = some .local)
    (hsw : swapsWith (.ListComp elt [⟨tg, iter, ifs, 0⟩] scope pos) (some (.Name y py)) spos.line X.env = pure true) (hi : PI X tg iter wi) (ok : BlkOk X.N X.env.scope scope own)
    (hg : ∀ (s : Shared) (H : Hp) (C : Addr) (cl : List (Str × Addr)) (fp : List Addr), PG (X.blk s H scope (compEnvC scope cl C X.env) fp) tg g) (ht : ∀ (s : Shared) (H : Hp) (C : Addr) (cl : List (Str × Addr)) (fp : List Addr), PTs (X.blk s H scope (compEnvC scope cl C X.env) fp) ifs tt)
    (he : ∀ (s : Shared) (H : Hp) (C : Addr) (cl : List (Str × Addr)) (fp : List Addr), PE (X.blk s H scope (compEnvC scope cl C X.env) fp) elt te) (hs : ∀ x, foldedSetIterable iter X.env x = pure x := by intro _; rfl) :
    PS X (.Assign [.Name y py] (.ListComp elt [⟨tg, iter, ifs, 0⟩] scope pos) spos) (tAsg (tLc wi g tt te (own.map (·.2))) (gName i)) := by
  intro pins s σ H D I h
  rw [exec_Assign_Name_used _ _ _ _ hsw]
  refine wpAny_bind (wpAny_standAt (wpAny_bind ?_))
  show wpAny _ X.A (do let _ ← comprehension (.ListComp elt [⟨tg, iter, ifs, 0⟩] scope pos) scope X.env (firstIterPos [⟨tg, iter, ifs, 0⟩] pos) (newList []) false (eval iter X.env) (some (assign (.Name y py) X.env))) _ _ s
  have h : tLc wi g tt te (own.map (·.2)) σ H (fun x H1 => gName i x σ H1 D.nx) := h
  refine wpAny_bind (thn (lc_core (Qf := fun _ s' => SP X pins D .next s') hc hN I hi ok hg ht he hs h fun L C s' m H' I' q hn f => ?_) fun _ s' hq => wpAny_pure (wpAny_pure hq))
  show wpAny _ _ (assign (.Name y py) X.env (.ref L)) _ _ _
  refine wpAny_assign_Name (store_ok2 (v := V.ref L) I' hN hy (.inl hyl) rfl (fun s2 I2 ⟨a, sb, ha⟩ => ?_) (.inr hyl))
  obtain ⟨f0, f1, f2, f3, f4, f5⟩ := f
  have haC : C ≠ a := by
    rcases ha with z | z
    · rw [z]; exact f1
    · exact fun e => f4 y a z e.symm
  refine ⟨m, hn.sameBut sb haC, fun h3 sb3 => ?_⟩
  exact ⟨_, H', I2.turned (t' := s2.toks) (fun b o hb e => (sb3.2 b hb).trans e) f0 f1 f3 f4 f5, q⟩
theorem sw_true {elt : Expr} {gs : List Comprehension} {scope : Scope} {pos py : Pos} {y : Str} {l : Nat} {env : Env} (hk : env.scope.kind = .function) (hy : env.scope.names.lookup y = some .local) (hl : (py.line == pos.line) = true)
    (ha : (scope.names.any fun (n, k) => n == y && (k == .local || k == .cell)) = false) : swapsWith (.ListComp elt gs scope pos) (some (.Name y py)) l env = pure true := by
  have ky : env.kindOf y = some .local := hy
  have hb : env.blockKind = .function := by unfold Env.blockKind; rw [hk]; rfl
  unfold swapsWith
  simp only [hb, ky, ha, Expr.pos, hl]
  rfl
end

/-! ### the forms one uses -/
/-- over a range: Pv by the turn and the heap (the new list at D within) -/
theorem lc_range {lo : Int} {n : Nat} {g : TG} {tt : TT} {te : TE} {vs : List Nat} {σ : St} {H1 : Hp} {D : Addr} {Qd : Hp → Prop} (Pv : Nat → Hp → Prop) (h0 : Pv 0 (upd H1 D (.lst [])))
    (hs : ∀ i H, i < n → Pv i H → g (.int (lo + i)) (wipe σ vs) H fun σ2 H2 => wipe σ2 vs = wipe σ vs ∧ tt σ2 H2 fun b H3 =>
      if b = true then te σ2 H3 fun y H4 => ∃ acc, H4 D = some (.lst acc) ∧ acc.length < sizeLine ∧ Pv (i + 1) (upd H4 D (.lst (acc ++ [y]))) else Pv (i + 1) H3) (hd : ∀ H, Pv n H → Qd H) :
    ∃ W : Nat → Nat → Hp → Prop, (∃ m, W 0 m (upd H1 D (.lst []))) ∧ ∀ i m H, W i m H →
      ((Itr lo n).stop i H ∧ Qd H) ∨ ((Itr lo n).go i H ∧ ∃ Nx : Hp → Prop, (∀ H', Nx H' → ∃ m', m' < m ∧ W (i + 1) m' H') ∧ ∀ x H', (Itr lo n).yld i H x H' → g x (wipe σ vs) H' fun σ2 H2 => wipe σ2 vs = wipe σ vs ∧ tt σ2 H2 fun b H3 =>
        if b = true then te σ2 H3 fun y H4 => ∃ acc, H4 D = some (.lst acc) ∧ acc.length < sizeLine ∧ Nx (upd H4 D (.lst (acc ++ [y]))) else Nx H3) := by
  refine ⟨fun i m H => m = n - i ∧ i ≤ n ∧ Pv i H, ⟨n, by simp, Nat.zero_le _, h0⟩, ?_⟩
  rintro i m H ⟨rfl, hi, p⟩
  by_cases hlt : i < n
  · refine .inr ⟨hlt, Pv (i + 1), fun H' p' => ⟨n - (i + 1), by omega, rfl, hlt, p'⟩, fun x H' y => ?_⟩
    obtain ⟨e, y⟩ := y
    subst e y
    exact hs i _ hlt p
  · have e : i = n := by omega
    subst e
    exact .inl ⟨Nat.le_refl _, hd H p⟩
/-- over a list that the block leaves as it is -/
theorem lc_list {K : PySem.W.Frag} {a : Addr} {xs : List V} {g : TG} {tt : TT} {te : TE} {vs : List Nat} {σ : St} {H1 : Hp} {D : Addr} {Qd : Hp → Prop} (Pv : Nat → Hp → Prop) (h0 : Pv 0 (upd H1 D (.lst []))) (hl : ∀ i H, i ≤ xs.length → Pv i H → SqL K H a xs)
    (hs : ∀ i x H, xs[i]? = some x → Pv i H → g x (wipe σ vs) H fun σ2 H2 => wipe σ2 vs = wipe σ vs ∧ tt σ2 H2 fun b H3 =>
      if b = true then te σ2 H3 fun y H4 => ∃ acc, H4 D = some (.lst acc) ∧ acc.length < sizeLine ∧ Pv (i + 1) (upd H4 D (.lst (acc ++ [y]))) else Pv (i + 1) H3) (hd : ∀ H, Pv xs.length H → Qd H) :
    ∃ W : Nat → Nat → Hp → Prop, (∃ m, W 0 m (upd H1 D (.lst []))) ∧ ∀ i m H, W i m H →
      ((Itl K a).stop i H ∧ Qd H) ∨ ((Itl K a).go i H ∧ ∃ Nx : Hp → Prop, (∀ H', Nx H' → ∃ m', m' < m ∧ W (i + 1) m' H') ∧ ∀ x H', (Itl K a).yld i H x H' → g x (wipe σ vs) H' fun σ2 H2 => wipe σ2 vs = wipe σ vs ∧ tt σ2 H2 fun b H3 =>
        if b = true then te σ2 H3 fun y H4 => ∃ acc, H4 D = some (.lst acc) ∧ acc.length < sizeLine ∧ Nx (upd H4 D (.lst (acc ++ [y]))) else Nx H3) := by
  refine ⟨fun i m H => m = xs.length - i ∧ i ≤ xs.length ∧ Pv i H, ⟨xs.length, by simp, Nat.zero_le _, h0⟩, ?_⟩
  rintro i m H ⟨rfl, hi, p⟩
  have q := hl i H hi p
  by_cases hlt : i < xs.length
  · refine .inr ⟨⟨xs, xs[i], q, by simp [hlt]⟩, Pv (i + 1), fun H' p' => ⟨xs.length - (i + 1), by omega, rfl, hlt, p'⟩, fun x H' y => ?_⟩
    obtain ⟨e, y⟩ := y
    subst e
    exact hs i x _ (y xs q) p
  · have e : i = xs.length := by omega
    subst e
    exact .inl ⟨⟨xs, q, Nat.le_refl _⟩, hd H p⟩
def blkC (N : List Str) (sc scope : Scope) (own : List (Str × Nat)) : Bool :=
  (match scope.kind with | .function => true | _ => false) && (scope.names.all fun y => decide (scope.names.lookup y.1 = some y.2)) && (own.all fun p => decide (N[p.2]? = some p.1)) &&
    (scope.names.all fun y => match y.2 with
      | .free => (match sc.names.lookup y.1 with | some .cell => true | some .free => true | _ => false)
      | .local => decide (y.1 ∈ own.map (·.1)) || decide (y.1 ∉ N)
      | .cell => decide (y.1 ∈ own.map (·.1)) || decide (y.1 ∉ N)
      | _ => true)
theorem blkOk_by {N : List Str} {sc scope : Scope} {own : List (Str × Nat)} (h : blkC N sc scope own = true) : BlkOk N sc scope own := by
  unfold blkC at h
  simp only [Bool.and_eq_true, List.all_eq_true, decide_eq_true_eq] at h
  obtain ⟨⟨⟨h1, h2⟩, h3⟩, h4⟩ := h
  refine ⟨?_, h2, h3, fun y hy e => ?_, fun y hy e => ?_⟩
  · split at h1
    · assumption
    · cases h1
  · have q := h4 y hy
    simp only [e] at q
    split at q <;> first | exact .inl (by assumption) | exact .inr (by assumption) | cases q
  · have q := h4 y hy
    rcases e with e | e <;> (simp only [e, Bool.or_eq_true, decide_eq_true_eq] at q; exact q)
end L2

namespace L2
open PySem PySem.Spec PyProof.Rows

section
variable {prog : Program} {w : World} {A : Around} {R : Result → Shared → Prop} {s : Shared} {elt t0 i0 t1 i1 : Expr} {ifs0 ifs1 : List Expr} {scope : Scope} {pos : Pos} {it acc : Value} {env : Env}
end

section
variable {X : Cx}
end
end L2

namespace L2
open PySem PySem.Spec PyProof.Rows

/-! ### lists of pairs as tables -/
section
variable {κ : Type} [DecidableEq κ]
def valV (kvs : List (κ × V)) (k : κ) : Option V := (kvs.find? fun kv => decide (kv.1 = k)).map (·.2)
/-- in its place, or at the end -/
def putK (kvs : List (κ × V)) (k : κ) (v : V) : List (κ × V) :=
  if (kvs.any fun kv => decide (kv.1 = k)) = true then kvs.map (fun kv => if kv.1 = k then (kv.1, v) else kv) else kvs ++ [(k, v)]

theorem valV_pos {p : κ × V} {r : List (κ × V)} {k : κ} (e : p.1 = k) : valV (p :: r) k = some p.2 := by simp [valV, List.find?_cons, e]
theorem valV_neg {p : κ × V} {r : List (κ × V)} {k : κ} (e : ¬ p.1 = k) : valV (p :: r) k = valV r k := by simp [valV, List.find?_cons, e]
theorem valV_any (k : κ) : ∀ kvs : List (κ × V), (kvs.any fun kv => decide (kv.1 = k)) = (valV kvs k).isSome
  | [] => rfl
  | p :: r => by
    rw [List.any_cons]
    by_cases e : p.1 = k
    · simp only [valV_pos e, decide_eq_true e, Bool.true_or, Option.isSome_some]
    · rw [valV_neg e, decide_eq_false e, Bool.false_or]; exact valV_any k r
theorem length_putK (kvs : List (κ × V)) (k : κ) (v : V) : (putK kvs k v).length ≤ kvs.length + 1 := by
  unfold putK
  split
  · rw [List.length_map]; omega
  · rw [List.length_append, List.length_cons, List.length_nil]; omega

theorem RelO.isSome_eq {o : Option V} {u : Option Value} (r : RelO o u) : o.isSome = u.isSome := by
  cases o with
  | none => cases u with
    | none => rfl
    | some _ => exact (show False from r).elim
  | some _ => cases u with
    | none => exact (show False from r).elim
    | some _ => rfl
theorem RelO.getD {o : Option V} {u : Option Value} {d : V} {d' : Value} (r : RelO o u) (rd : RelV d d') : RelV (o.getD d) (u.getD d') := by
  cases o with
  | none => cases u with
    | none => exact rd
    | some _ => exact (show False from r).elim
  | some _ => cases u with
    | none => exact (show False from r).elim
    | some _ => exact r

/-- raw tables of the same keys -/
theorem KV.val {kvs : List (κ × V)} {vs : List (κ × Value)} (r : KV kvs vs) (k : κ) : RelO (valV kvs k) (valueAt vs k) := by
  unfold KV at r
  induction r with
  | nil => exact True.intro
  | @cons p q ps qs h t ih =>
    obtain ⟨h1, h2⟩ := h
    by_cases e : p.1 = k
    · have e' : q.1 = k := h1.symm.trans e
      have b : valueAt (q :: qs) k = some q.2 := by simp [valueAt, List.find?_cons, e']
      rw [valV_pos e, b]; exact h2
    · have e' : ¬ q.1 = k := fun z => e (h1.trans z)
      have b : valueAt (q :: qs) k = valueAt qs k := by simp [valueAt, List.find?_cons, e']
      rw [valV_neg e, b]; exact ih
theorem KV.any {kvs : List (κ × V)} {vs : List (κ × Value)} (r : KV kvs vs) (k : κ) : (kvs.any fun kv => decide (kv.1 = k)) = vs.any fun kv => decide (kv.1 = k) := by
  unfold KV at r
  induction r with
  | nil => rfl
  | cons h t ih => rw [List.any_cons, List.any_cons, ih, h.1]
theorem KV.repl {kvs : List (κ × V)} {vs : List (κ × Value)} (r : KV kvs vs) (k : κ) {y : V} {u : Value} (ry : RelV y u) :
    KV (kvs.map fun kv => if kv.1 = k then (kv.1, y) else kv) (vs.map fun kv => if kv.1 = k then (kv.1, u) else kv) := by
  unfold KV at r ⊢
  induction r with
  | nil => exact .nil
  | @cons p q ps qs h t ih =>
    rw [List.map_cons, List.map_cons]
    refine .cons ?_ ih
    obtain ⟨h1, h2⟩ := h
    by_cases e : p.1 = k
    · rw [if_pos e, if_pos (h1.symm.trans e)]; exact ⟨h1, ry⟩
    · rw [if_neg e, if_neg (fun z => e (h1.trans z))]; exact ⟨h1, h2⟩
theorem KV.put {kvs : List (κ × V)} {vs : List (κ × Value)} (r : KV kvs vs) (k : κ) {y : V} {u : Value} (ry : RelV y u) : KV (putK kvs k y) (stored vs k u) := by
  unfold putK stored
  rw [r.any k]
  by_cases e : (vs.any fun kv => decide (kv.1 = k)) = true
  · rw [if_pos e, if_pos e]; exact r.repl k ry
  · rw [if_neg e, if_neg e]; exact Paired.snoc r ⟨rfl, ry⟩
theorem KV.length {kvs : List (κ × V)} {vs : List (κ × Value)} (r : KV kvs vs) : kvs.length = vs.length := Paired.length r
end

/-! ### a tracked dict, its keys ints and texts or tuples of these -/
theorem kV_is {P : Program} {w : World} {k : Key} {u : Value} (r : RelV (kV k) u) : (mixKind P w).is k u = true := by
  cases k with
  | inl i => obtain ⟨t, e⟩ := (show ∃ t, u = Value.int i t from r); subst e; exact mixKind_int P w i t
  | inr x => obtain ⟨t, e⟩ := (show ∃ t, u = Value.str x t from r); subst e; exact mixKind_str P w x t
theorem items_are {P : Program} {w : World} : ∀ {ks : List Key} {us : List Value}, Vals (ks.map kV) us → ItemsAre (mixKind P w) ks us
  | [], _, r => by rw [List.map_nil] at r; cases r; exact .nil
  | k :: ks, _, r => by
    rw [List.map_cons] at r
    cases r with
    | cons h t => exact .cons (kV_is h) (items_are t)

/-- raw entries of a dict with tuple keys -/
abbrev KT (H : Hp) : List (List Key × V) → List (List Key × Addr × Value) → Prop := Paired fun p q => p.1 = q.1 ∧ H q.2.1 = some (.tup (p.1.map kV)) ∧ RelV p.2 q.2.2
theorem KT.val {H : Hp} {kvs : List (List Key × V)} {xs : List (List Key × Addr × Value)} (r : KT H kvs xs) (k : List Key) : RelO (valV kvs k) ((atKey xs k).map (·.2)) := by
  induction r with
  | nil => exact True.intro
  | @cons p q ps qs h t ih =>
    obtain ⟨h1, _, h2⟩ := h
    by_cases e : p.1 = k
    · have e' : q.1 = k := h1.symm.trans e
      have b : atKey (q :: qs) k = some q.2 := by simp [atKey, List.find?_cons, e']
      rw [valV_pos e, b]; exact h2
    · have e' : ¬ q.1 = k := fun z => e (h1.trans z)
      have b : atKey (q :: qs) k = atKey qs k := by simp [atKey, List.find?_cons, e']
      rw [valV_neg e, b]; exact ih
theorem KT.repl {H : Hp} {kvs : List (List Key × V)} {xs : List (List Key × Addr × Value)} (r : KT H kvs xs) (k : List Key) {y : V} {u : Value} (ry : RelV y u) :
    KT H (kvs.map fun kv => if kv.1 = k then (kv.1, y) else kv) (xs.map (putAt k u)) := by
  induction r with
  | nil => exact .nil
  | @cons p q ps qs h t ih =>
    rw [List.map_cons, List.map_cons]
    refine .cons ?_ ih
    obtain ⟨h1, h2, h3⟩ := h
    unfold putAt
    by_cases e : p.1 = k
    · rw [if_pos e, if_pos (h1.symm.trans e)]; exact ⟨h1, h2, ry⟩
    · rw [if_neg e, if_neg (fun z => e (h1.trans z))]; exact ⟨h1, h2, h3⟩
theorem KT.put {H : Hp} {kvs : List (List Key × V)} {xs : List (List Key × Addr × Value)} (r : KT H kvs xs) (k : List Key) {b : Addr} {y : V} {u : Value} (hb : H b = some (.tup (k.map kV))) (ry : RelV y u) :
    KT H (putK kvs k y) (storedH xs k b u) := by
  have e : (kvs.any fun kv => decide (kv.1 = k)) = (atKey xs k).isSome := by
    rw [valV_any, (r.val k).isSome_eq, Option.isSome_map]
  unfold putK storedH
  rw [e]
  by_cases q : (atKey xs k).isSome = true
  · rw [if_pos q, if_pos q]; exact r.repl k ry
  · rw [if_neg q, if_neg q]; exact Paired.snoc r ⟨rfl, hb, ry⟩
theorem KT.keeps {H H' : Hp} {kvs : List (List Key × V)} {xs : List (List Key × Addr × Value)} (r : KT H kvs xs) (ht : ∀ b ys, H b = some (.tup ys) → H' b = some (.tup ys)) : KT H' kvs xs :=
  Paired.mapP r fun _ _ z => ⟨z.1, ht _ _ z.2.1, z.2.2⟩

section
variable {P : Program} {w : World} {H : Hp} {h : Heap} {a : Addr}
theorem rd_of {u : HO} (ok : HOk P w H h) (e : Rd H a u) : ObjOk P w H h a u := e.ok ok
theorem dk_rd {kvs : List (Key × V)} (ok : HOk P w H h) (e : Rd H a (.dK kvs)) : kvs.length ≤ sizeLine ∧ (a == sysModules) = false ∧ ∃ vs, KV kvs vs ∧ h.DictOf (mixKind P w) a vs :=
  show ObjOk P w H h a (.dK kvs) from rd_of ok e
theorem dk_of {kvs : List (Key × V)} (ok : HOk P w H h) (e : H a = some (.dK kvs)) : kvs.length ≤ sizeLine ∧ (a == sysModules) = false ∧ ∃ vs, KV kvs vs ∧ h.DictOf (mixKind P w) a vs := dk_rd ok (.inl e)
/-- a tracked tuple of ints and texts is a key -/
theorem key_of {ks : List Key} (ok : HOk P w H h) (e : H a = some (.tup (ks.map kV))) : (tupleKind (mixKind P w)).is h ks a := by
  obtain ⟨_, its, r, o, h1, h2, n, h3⟩ := (show ObjOk P w H h a (.tup (ks.map kV)) from ok a _ e)
  exact ⟨o, its.toArray, n, h1, h2, h3, by simpa using items_are r⟩
theorem dt_rd {kvs : List (List Key × V)} (ok : HOk P w H h) (e : Rd H a (.dT kvs)) : kvs.length ≤ sizeLine ∧ (a == sysModules) = false ∧
    ∃ xs, KT H kvs xs ∧ h.DictOfH (tupleKind (mixKind P w)) a xs := by
  obtain ⟨z, y, xs, r, o, es, ep, h1, h2, h3, h4, h5⟩ := (show ObjOk P w H h a (.dT kvs) from rd_of ok e)
  refine ⟨z, y, xs, r, o, es, ep, h1, h2, h3, h4, fun x hx => ?_, h5⟩
  have all : ∀ {l : List (List Key × V)} {m : List (List Key × Addr × Value)}, KT H l m → ∀ x ∈ m, (tupleKind (mixKind P w)).is h x.1 x.2.1 := by
    intro l m q
    induction q with
    | nil => intro x hx; exact nomatch hx
    | @cons p q ps qs hq t ih =>
      intro x hx
      rcases List.mem_cons.mp hx with e | hx
      · subst e
        exact key_of ok (by rw [← hq.1]; exact hq.2.1)
      · exact ih x hx
  exact all r x hx
theorem dt_of {kvs : List (List Key × V)} (ok : HOk P w H h) (e : H a = some (.dT kvs)) : kvs.length ≤ sizeLine ∧ (a == sysModules) = false ∧
    ∃ xs, KT H kvs xs ∧ h.DictOfH (tupleKind (mixKind P w)) a xs := dt_rd ok (.inl e)
end

/-- what the dict at a holds at the key y -/
def DGet (H : Hp) (a : Addr) (y : V) (r : Option V) : Prop :=
  (∃ kvs k, Rd H a (.dK kvs) ∧ y = kV k ∧ r = valV kvs k) ∨ ∃ kvs k b, Rd H a (.dT kvs) ∧ y = .ref b ∧ H b = some (.tup (k.map kV)) ∧ r = valV kvs k
/-- the heap behind a[y] = v -/
def DPut (H : Hp) (a : Addr) (y v : V) (H' : Hp) : Prop :=
  (∃ kvs k, H a = some (.dK kvs) ∧ y = kV k ∧ kvs.length < sizeLine ∧ H' = upd H a (.dK (putK kvs k v))) ∨
  ∃ kvs k b, H a = some (.dT kvs) ∧ y = .ref b ∧ H b = some (.tup (k.map kV)) ∧ kvs.length < sizeLine ∧ H' = upd H a (.dT (putK kvs k v))
theorem DGet.t {H : Hp} {a b : Addr} {kvs : List (List Key × V)} {k : List Key} (e : H a = some (.dT kvs)) (eb : H b = some (.tup (k.map kV))) : DGet H a (.ref b) (valV kvs k) := .inr ⟨kvs, k, b, .inl e, rfl, eb, rfl⟩
theorem DPut.t {H : Hp} {a b : Addr} {kvs : List (List Key × V)} {k : List Key} {v : V} (e : H a = some (.dT kvs)) (eb : H b = some (.tup (k.map kV))) (hl : kvs.length < sizeLine) :
    DPut H a (.ref b) v (upd H a (.dT (putK kvs k v))) := .inr ⟨kvs, k, b, e, rfl, eb, hl, rfl⟩

section
variable {X : Cx} {pins : List (Addr × Obj)} {σ : St} {H : Hp} {s : Shared} {a : Addr} {y v : V} {u r : Value} {o : Option V} {A : Around} {E : Value → Shared → Prop}

theorem Inv.big (I : Inv X pins σ H s) : sysModules < s.heap.objs.size := by
  have h : mainGlobals < s.heap.objs.size := (I.mod.glob.keeps I.bk).lt
  exact Nat.lt_trans (by decide) h

/-- d[y], there -/
theorem d_getItem {Q : Value → Shared → Prop} (hu : A.units + 1 < cLine) (I : Inv X pins σ H s) (g : DGet H a y (some v)) (ry : RelV y u) (h : ∀ w' s', Inv X pins σ H s' → RelV v w' → Q w' s') :
    wpAny (model X.prog X.w) A (getItem (.ref a) u) Q E s := by
  rcases g with ⟨kvs, k, e, ey, l⟩ | ⟨kvs, k, b, e, ey, eb, l⟩
  · subst ey
    obtain ⟨z, hd, vs, rel, dd⟩ := dk_rd I.hok e
    obtain ⟨w', hw, rw'⟩ := RelO.some_of (v := v) (o := valueAt vs k) (by rw [l]; exact rel.val k)
    exact wpAny_getItem_of (kV_is ry) dd.mapOf hw (h w' _ (I.tok _) rw')
  · subst ey
    cases (show u = Value.ref b from ry)
    obtain ⟨z, hd, xs, rel, dd⟩ := dt_rd I.hok e
    obtain ⟨w', hw, rw'⟩ := RelO.some_of (v := v) (o := (atKey xs k).map (·.2)) (by rw [l]; exact rel.val k)
    obtain ⟨p, hp, hp2⟩ := Option.map_eq_some_iff.mp hw
    refine wpAny_getItem_heap (tupleKind_room_in1 hu) (key_of I.hok eb) dd hp ?_
    rw [hp2]
    exact h w' _ (I.tok _) rw'
/-- y in d -/
theorem d_in {Q : Value → Shared → Prop} (hu : A.units + 1 < cLine) (I : Inv X pins σ H s) (g : DGet H a y o) (ry : RelV y u) (h : ∀ s', Inv X pins σ H s' → Q (.bool o.isSome) s') :
    wpAny (model X.prog X.w) A (compareOp .In u (.ref a)) Q E s := by
  rcases g with ⟨kvs, k, e, ey, l⟩ | ⟨kvs, k, b, e, ey, eb, l⟩
  · subst ey
    obtain ⟨z, hd, vs, rel, dd⟩ := dk_rd I.hok e
    refine wpAny_in_of (kV_is ry) hd dd.mapOf ?_
    rw [← (rel.val k).isSome_eq, ← l]
    exact h _ (I.tok _)
  · subst ey
    cases (show u = Value.ref b from ry)
    obtain ⟨z, hd, xs, rel, dd⟩ := dt_rd I.hok e
    refine wpAny_in_heap (tupleKind_room_in1 hu) (key_of I.hok eb) hd dd ?_
    have q := (rel.val k).isSome_eq
    rw [Option.isSome_map] at q
    rw [← q, ← l]
    exact h _ (I.tok _)
/-- a dict's object is replaced -/
theorem d_write {h' : Heap} {t' : Nat} {ob : HO} (I : Inv X pins σ H s) (mu : Mut (H a)) (hs : Heap.SameBut a s.heap h') (he : ∃ q, h'.get? a = some q) (new : ObjOk X.prog X.w (upd H a ob) h' a ob) :
    Inv X pins σ (upd H a ob) { s with heap := h', toks := t' } :=
  I.write (x := a) (e := a) mu (.inl rfl) (fun b q hb z => (hs.2 b hb).trans z) he new
theorem dk_new {P : Program} {w : World} {H' : Hp} {h' : Heap} {kvs : List (Key × V)} {vs : List (Key × Value)} (z : kvs.length ≤ sizeLine) (hd : (a == sysModules) = false) (rel : KV kvs vs) (dd : h'.DictOf (mixKind P w) a vs) :
    ObjOk P w H' h' a (.dK kvs) := ⟨z, hd, vs, rel, dd⟩
/-- d[y] = v -/
theorem d_setItem {H' : Hp} {Q : Unit → Shared → Prop} (hu : A.units + 1 < cLine) (I : Inv X pins σ H s) (g : DPut H a y v H') (ry : RelV y u) (rv : RelV v r) (h : ∀ s', Inv X pins σ H' s' → Q () s') :
    wpAny (model X.prog X.w) A (setItem (.ref a) u r) Q E s := by
  rcases g with ⟨kvs, k, e, ey, l, eH⟩ | ⟨kvs, k, b, e, ey, eb, l, eH⟩
  · subst ey eH
    obtain ⟨z, hd, vs, rel, dd⟩ := dk_of I.hok e
    have hz : vs.length ≤ sizeLine := by rw [← rel.length]; exact z
    have hl : (putK kvs k v).length ≤ sizeLine := by have := length_putK kvs k v; omega
    refine wpAny_setItem_pairs (hsz := hz) (kV_is ry) dd fun h' dd' hs => h _ ?_
    have he : ∃ q, h'.get? a = some q := let ⟨q, _, _, hq, _⟩ := dd'; ⟨q, hq⟩
    exact d_write I (by rw [e]; exact True.intro) hs he (dk_new hl hd (rel.put k rv) dd')
  · subst ey eH
    cases (show u = Value.ref b from ry)
    obtain ⟨z, hd, xs, rel, dd⟩ := dt_of I.hok e
    have hz : xs.length ≤ sizeLine := by rw [← Paired.length rel]; exact z
    have hl : (putK kvs k v).length ≤ sizeLine := by have := length_putK kvs k v; omega
    refine wpAny_setItem_heap (hsz := hz) (tupleKind_room_in1 hu) (key_of I.hok eb) dd fun h' dd' hs => h _ ?_
    obtain ⟨q, es, ep, hq, h2, h3, h4, _, h5⟩ := dd'
    refine d_write I (by rw [e]; exact True.intro) hs ⟨q, hq⟩ ⟨hl, hd, _, (rel.put k eb rv).keeps fun c ys ec => ?_, q, es, ep, hq, h2, h3, h4, h5⟩
    rw [upd_ne (ne_of ec e (fun z => nomatch z))]
    exact ec
end

section
variable {X : Cx} {pins : List (Addr × Obj)} {σ : St} {H : Hp} {s : Shared} {a : Addr} {kvs : List (Key × V)} {k : Key} {u : Value} {A : Around} {E : Value → Shared → Prop}
end

/-! ### readings and rules -/
/-- the element of a subscription, not a slice -/
def NoSl (i : Expr) : Prop := ∀ ov iv, subscripted i false ov iv = operate [ov, iv] (getItem ov iv)
theorem subD_of {prog : Program} {w : World} {A : Around} {E : Value → Shared → Prop} {s : Shared} {env : Env} {value slice : Expr} {pos : Pos} {T id : String} {Q : Value → Shared → Prop}
    (hl : typeLookup (.type T) "__getitem__" = pure (some (.builtin id))) (hs : NoSl slice)
    (h : wpAny (model prog w) A (eval value env) (fun o s₁ => wpAny (model prog w) A (eval slice env) (fun i s₂ => s₂.TypeIs o T ∧ wpAny (model prog w) A (getItem o i) Q E s₂) E s₁) E s) :
    wpAny (model prog w) A (eval (.Subscript value slice pos) env) Q E s := by
  refine Subscript_ (wpAny_mono h (fun o s₁ h₁ => wpAny_mono h₁ (fun i s₂ h₂ => ?_) fun _ _ x => x) fun _ _ x => x)
  obtain ⟨hT, h₂⟩ := h₂
  unfold subscriptTail
  refine wpAny_bind ?_
  rw [getitemInPython_of_ne hT.not_modules]
  refine wpAny_bind (wpAny_specialOf hT hl ?_)
  have fin : wpAny (model prog w) A (subscripted slice false o i) (fun r s₃ => wpAny (model prog w) A (letTemporaryGo value o r >>= fun _ => pure r) Q E s₃) E s₂ := by
    rw [hs o i]
    exact wpAny_operating (wpAny_mono h₂ (fun r s₃ h₃ => wpAny_bind (wpAny_letTemporaryGo (wpAny_pure h₃))) fun _ _ x => x)
  first
    | exact wpAny_pure (wpAny_bind fin)
    | exact wpAny_bind (wpAny_pure (wpAny_bind fin))
    | exact wpAny_bind fin

theorem dict_typeIs {X : Cx} {pins : List (Addr × Obj)} {σ : St} {H : Hp} {s : Shared} {a : Addr} {y : V} {o : Option V} (I : Inv X pins σ H s) (g : DGet H a y o) : s.TypeIs (.ref a) "dict" := by
  rcases g with ⟨kvs, k, e, _, _⟩ | ⟨kvs, k, b, e, _, _, _⟩
  · obtain ⟨_, _, vs, _, dd⟩ := dk_rd I.hok e
    exact dd.typeIs
  · obtain ⟨_, _, xs, _, dd⟩ := dt_rd I.hok e
    exact dd.typeIs

/-- d[y] -/
def tDGet (td ty : TE) : TE := fun σ H Q => td σ H fun x H1 => ty σ H1 fun y H2 => ∃ a v, x = .ref a ∧ DGet H2 a y (some v) ∧ Q v H2
/-- y in d, y not in d -/
def tDIn (ty td : TE) : TE := fun σ H Q => ty σ H fun y H1 => td σ H1 fun x H2 => ∃ a o, x = .ref a ∧ DGet H2 a y o ∧ Q (.bl o.isSome) H2
/-- d[y] = v -/
def sDPut (td ty tv : TE) : TS := fun D σ H => tv σ H fun v H1 => td σ H1 fun x H2 => ty σ H2 fun y H3 => ∃ a H4, x = .ref a ∧ DPut H3 a y v H4 ∧ D.nx σ H4

section
variable {X : Cx} {o i e value : Expr} {pos pos' tpos : Pos} {td ty tv : TE}
theorem pe_dget (hu : X.A.units + 1 < cLine) (ho : PE X o td) (hi : PE X i ty) (hs : NoSl i) : PE X (.Subscript o i pos) (tDGet td ty) := by
  intro pins s σ H Q I h
  refine subD_of PySem.F.slot_dict_getitem.lookup hs (thn (ho pins s σ H _ I h) fun u s1 ⟨x, H1, I1, rx, q1⟩ => thn (hi pins s1 σ H1 _ I1 q1) fun iv s2 ⟨y, H2, I2, ry, a, v, ex, g, q2⟩ => ?_)
  subst ex
  obtain rfl : u = Value.ref a := rx
  exact ⟨dict_typeIs I2 g, d_getItem hu I2 g ry fun w' s3 I3 rw' => ⟨v, H2, I3, rw', q2⟩⟩
theorem pc_din (hu : X.A.units + 1 < cLine) (hi : PE X i ty) (ho : PE X o td) : PC X .In i o (tDIn ty td) := by
  intro pins s σ H Q I h
  refine thn (hi pins s σ H _ I h) fun iv s1 ⟨y, H1, I1, ry, q1⟩ => thn (ho pins s1 σ H1 _ I1 q1) fun u s2 ⟨x, H2, I2, rx, a, ov, ex, g, q2⟩ => ?_
  subst ex
  obtain rfl : u = Value.ref a := rx
  exact d_in hu I2 g ry fun s3 I3 => ⟨.bl ov.isSome, H2, I3, rfl, q2⟩
theorem ps_dput (hu : X.A.units + 1 < cLine) (ho : PE X o td) (hi : PE X i ty) (hv : PE X value tv) (hs : swapsWith value (some (.Subscript o i pos')) pos.line X.env = pure false) :
    PS X (.Assign [.Subscript o i pos'] value pos) (sDPut td ty tv) := by
  intro pins s σ H D I h
  refine wpAny_Assign_Subscript (thn (hv pins s σ H _ I h) fun r s1 ⟨v, H1, I1, rv, q1⟩ => thn (ho pins s1 σ H1 _ I1 q1) fun u s2 ⟨x, H2, I2, rx, q2⟩ => thn (hi pins s2 σ H2 _ I2 q2) fun iv s3 ⟨y, H3, I3, ry, a, H4, ex, g, q3⟩ => ?_) hs
  subst ex
  obtain rfl : u = Value.ref a := rx
  exact d_setItem hu I3 g ry rv fun s4 I4 => ⟨σ, H4, I4, q3⟩
end

/-! ### displays -/
theorem dt_empty {P : Program} {w : World} {H : Hp} (h : Heap) (hb : sysModules < h.objs.size) : ObjOk P w H (h.push { cls := .type "dict", data := .dict #[] }) h.objs.size (.dT []) :=
  ⟨Nat.zero_le _, beq_eq_false_iff_ne.mpr (Ne.symm (Nat.ne_of_lt hb)), [], .nil, _, #[], 0, Heap.get?_push_size _ rfl, ⟨rfl, rfl, rfl⟩, rfl, rfl, List.nodup_nil⟩
section
variable {X : Cx} {pos : Pos}
end

/-- the pairs of a display, from the left -/
def tPairs : List (TE × TE) → St → Hp → (List (V × V) → Hp → Prop) → Prop
  | [], _, H, Q => Q [] H
  | (tk, tv) :: r, σ, H, Q => tk σ H fun x H1 => tv σ H1 fun y H2 => tPairs r σ H2 fun ps H3 => Q ((x, y) :: ps) H3
abbrev VV : List (V × V) → List (Value × Value) → Prop := Paired fun p q => RelV p.1 q.1 ∧ RelV p.2 q.2
def PPs (X : Cx) (pos : Pos) (keys : List (Option Expr)) (values : List Expr) (trs : List (TE × TE)) : Prop :=
  ∀ (pins : List (Addr × Obj)) (s : Shared) (σ : St) (H : Hp) (Q : List (V × V) → Hp → Prop), Inv X pins σ H s → tPairs trs σ H Q →
    wpAny (model X.prog X.w) X.A (evalPairs (pairTrees keys values X.env pos)) (fun vs s' => ∃ ps H', Inv X pins σ H' s' ∧ VV ps vs ∧ Q ps H') X.xe s
theorem pps_nil {X : Cx} {pos : Pos} : PPs X pos [] [] [] := fun pins s σ H Q I h => pairTrees_nil_walk ⟨[], H, I, .nil, h⟩
theorem pps_cons {X : Cx} {pos : Pos} {k v : Expr} {ks : List (Option Expr)} {vs : List Expr} {tk tv : TE} {trs : List (TE × TE)} (hk : PE X k tk) (hv : PE X v tv) (hr : PPs X pos ks vs trs) :
    PPs X pos (some k :: ks) (v :: vs) ((tk, tv) :: trs) := fun pins s σ H Q I h =>
  pairTrees_cons_walk (thn (hk pins s σ H _ I h) fun u s1 ⟨x, H1, I1, rx, q1⟩ => thn (hv pins s1 σ H1 _ I1 q1) fun w2 s2 ⟨y, H2, I2, ry, q2⟩ =>
    thn (hr pins s2 σ H2 _ I2 q2) fun ws s3 ⟨ps, H3, I3, rel, q3⟩ => ⟨(x, y) :: ps, H3, I3, .cons ⟨rx, ry⟩ rel, q3⟩)

/-! ### methods -/
structure M2 (X : Cx) (o : Expr) (m : Str) (apos : Pos) (e f : Expr) (cpos : Pos) : Prop where
  base : attributeBase o m X.env (eval o X.env) = eval o X.env
  few : ((backTo cpos (starEach [e, f] X.env)).all (fun x => !x.1) && (backToKw cpos (keywordEach [] X.env)).all (fun x => x.1.isSome)
    && decide (([e, f] : List Expr).length + ([] : List Keyword).length + (if ([] : List Keyword).isEmpty then 0 else 1) < 30)) = true
  line : (apos.endLine == cpos.line) = true
  trees : backTo cpos (starEach [e, f] X.env) = [(false, eval e X.env), (false, eval f X.env)]

/-- a is a dict, whatever its keys -/
def IsD (H : Hp) (a : Addr) : Prop := (∃ kvs, Rd H a (.dK kvs)) ∨ ∃ kvs, Rd H a (.dT kvs)
theorem isD_at {X : Cx} {pins : List (Addr × Obj)} {σ : St} {H : Hp} {s : Shared} {a : Addr} (I : Inv X pins σ H s) (d : IsD H a) :
    s.TypeIs (.ref a) "dict" ∧ (∀ b, Value.ref a = .ref b → ∃ ob, s.heap.get? b = some ob ∧ ob.dict = none) ∧ (a == sysModules) = false := by
  rcases d with ⟨kvs, e⟩ | ⟨kvs, e⟩
  · obtain ⟨_, hd, vs, _, dd⟩ := dk_rd I.hok e
    refine ⟨dd.typeIs, fun b q => ?_, hd⟩
    cases q
    obtain ⟨ob, _, _, h1, h2, _⟩ := dd
    exact ⟨ob, h1, h2.2.1⟩
  · obtain ⟨_, hd, xs, _, dd⟩ := dt_rd I.hok e
    refine ⟨dd.typeIs, fun b q => ?_, hd⟩
    cases q
    obtain ⟨ob, _, _, h1, h2, _⟩ := dd
    exact ⟨ob, h1, h2.2.1⟩

section
variable {X : Cx} {pins : List (Addr × Obj)} {σ : St} {H : Hp} {s : Shared} {a : Addr} {y d : V} {u r : Value} {o : Option V} {A : Around} {E : Value → Shared → Prop}
/-- d.get(y, x) -/
theorem d_get2 {Q : Value → Shared → Prop} (hu : A.units + 1 < cLine) (I : Inv X pins σ H s) (g : DGet H a y o) (ry : RelV y u) (rd : RelV d r) (h : ∀ w' s', Inv X pins σ H s' → RelV (o.getD d) w' → Q w' s') :
    wpAny (model X.prog X.w) A (call (.builtin "dict.get") [.ref a, u, r]) Q E s := by
  rcases g with ⟨kvs, k, e, ey, l⟩ | ⟨kvs, k, b, e, ey, eb, l⟩
  · subst ey
    obtain ⟨z, hd, vs, rel, dd⟩ := dk_rd I.hok e
    refine call_meetsIn PySem.F.slot_dict_get dd.typeIs PySem.F.entry_dict_get (PySem.F.args_dict_get_3 _ _ _) (meets_dict_get_default (mixKind X.prog X.w) a (kV_is ry) hd r) ⟨_, dd.mapOf, h _ _ (I.tok _) ?_⟩
    rw [l]
    exact (rel.val k).getD rd
  · subst ey
    cases (show u = Value.ref b from ry)
    obtain ⟨z, hd, xs, rel, dd⟩ := dt_rd I.hok e
    refine call_meetsIn PySem.F.slot_dict_get dd.typeIs PySem.F.entry_dict_get (PySem.F.args_dict_get_3 _ _ _) (meetsH_dict_get_default (tupleKind (mixKind X.prog X.w)) a b hd r) ⟨tupleKind_room_in1 hu, k, xs, key_of I.hok eb, dd, h _ _ (I.tok _) ?_⟩
    rw [l]
    exact (rel.val k).getD rd
end

def tDGet2 (td ty tx : TE) : TE := fun σ H Q => td σ H fun x H1 => ∃ a, x = .ref a ∧ IsD H1 a ∧ ty σ H1 fun y H2 => tx σ H2 fun z H3 => ∃ o, DGet H3 a y o ∧ Q (o.getD z) H3
section
variable {X : Cx} {o e f : Expr} {apos cpos : Pos} {td ty tx : TE}
theorem pe_dget2 (hu : X.A.units + 1 < cLine) (ho : PE X o td) (he : PE X e ty) (hf : PE X f tx) (m : M2 X o "get" apos e f cpos) : PE X (.Call (.Attribute o "get" apos) [e, f] [] cpos) (tDGet2 td ty tx) := by
  intro pins s σ H Q I h
  refine wpAny_Call_method m.base m.few m.line PySem.F.plainAttrs_dict PySem.F.slot_dict_get PySem.F.type_dict_get (thn (ho pins s σ H _ I h) fun u s1 ⟨x, H1, I1, rx, a, ex, d, q1⟩ => ?_)
  subst ex
  obtain rfl : u = Value.ref a := rx
  obtain ⟨t1, t2, _⟩ := isD_at I1 d
  refine ⟨t1, t2, ?_⟩
  rw [m.trees]
  refine Calls.callWith_builtin rfl (Calls.evalArgs_plain (Calls.spliced_cons (thn (he pins s1 σ H1 _ I1 q1) fun iv s2 ⟨y, H2, I2, ry, q2⟩ =>
    Calls.spliced_cons (thn (hf pins s2 σ H2 _ I2 q2) fun fv s3 ⟨z, H3, I3, rz, ov, g, q3⟩ => Calls.spliced_nil ?_))))
  exact d_get2 hu I3 g ry rz fun w' s4 I4 rw' => ⟨_, H3, I4, rw', q3⟩
end

/-! ### dict(d): a copy -/
section
variable {X : Cx} {pins : List (Addr × Obj)} {σ : St} {H : Hp} {s : Shared} {a : Addr} {kvs : List (Key × V)} {A : Around} {E : Value → Shared → Prop}
end

section
variable {X : Cx} {pins : List (Addr × Obj)} {σ : St} {H : Hp} {s : Shared} {a : Addr} {y : V} {u : Value} {A : Around} {E : Value → Shared → Prop}
end
end L2

namespace L2
open PySem PySem.Spec PyProof.Rows

section
variable {prog : Program} {w : World} {A : Around} {E : Value → Shared → Prop}

end

section
variable {X : Cx}
end
end L2

namespace L2
open PySem PySem.Spec PyProof.Rows

theorem boot_reversed5 : bootBuiltins "reversed" = some (.type "reversed") := by decide +kernel

section
variable {X : Cx} {pins : List (Addr × Obj)} {σ : St} {H : Hp} {s : Shared} {h' : Heap}
/-- .. and one new object is laid -/
theorem Inv.turnedNew {t' : Nat} {ch : List Addr} {T : Addr} {ob : HO} (I : Inv X pins σ H s) (k : ∀ b o, b ∉ ch → s.heap.get? b = some o → h'.get? b = some o) (hf : ∀ b ∈ ch, FpOk X pins H b) (hT : s.heap.objs.size ≤ T)
    (new : ObjOk X.prog X.w (upd H T ob) h' T ob) : Inv X pins σ (upd H T ob) { s with heap := h', toks := t' } := by
  have hn : H T = none := I.hok.fresh hT
  have nit : ∀ b u, H b = some u → b ∉ ch := fun b u e z => by
    have q := (hf b z).1
    rw [q] at e; cases e
  refine I.step (g' := s.gens) (d' := s.drawn) (ch := ch) (fun b hb => ⟨(hf b hb).2.2.2.1, (hf b hb).2.1, (hf b hb).2.2.2.2.1, (hf b hb).2.2.2.2.2⟩) (fun b o _ _ hc e _ => k b o hc e) (fun b o _ _ hc e _ => ⟨o.slots, k b o hc e⟩)
    (fun b o _ e n => ?_) (fun b o hc e => ⟨o, k b o hc e⟩) (fun b xs e => ?_) (fun b o u e => ?_) (fun b ps e => ⟨#[], ?_⟩) (fun m hm => ?_) (fun b u e => ?_) I.bare
  · rw [upd_ne (Nat.ne_of_lt (Nat.lt_of_lt_of_le (Heap.lt_size e) hT))]; exact n
  · rw [upd_ne (ne_of_none e hn)]; exact e
  · rw [upd_ne (ne_of_none e hn)]; exact e
  · rw [upd_ne (ne_of_none e hn), e]; simp
  · obtain ⟨o, es, ep, ho, r⟩ := hm
    exact ⟨o, es, ep, k _ o (fun z => (hf _ z).2.1 rfl) ho, r⟩
  · by_cases hb : b = T
    · subst hb
      rw [upd_same] at e
      cases e
      exact new
    · rw [upd_ne hb] at e
      refine (I.hok b u e).stay (fun c v hc q => k c v ?_ q) (fun c q => by rw [upd_ne (ne_of_none q hn)]; exact q) fun c xs q => by rw [upd_ne (ne_of_none q hn)]; exact q
      rcases hc with z | z
      · rw [z]; exact nit b u e
      · exact nit c _ z

/-! ### locking a thing while a statement runs -/
theorem Inv.lock {d : Addr} {u : HO} (I : Inv X pins σ H s) (h : H d = some u) (mu : Mut (some u)) : ∃ od, Inv X pins σ (upd H d (.frz od u)) s := by
  have x := I.hok d u h
  have ex : ∃ od, s.heap.get? d = some od := by
    cases u with
    | lst xs => obtain ⟨_, _, _, _, e⟩ := x; exact ⟨_, e⟩
    | dK kvs => obtain ⟨_, _, _, _, o, _, _, e, _⟩ := x; exact ⟨o, e⟩
    | dT kvs => obtain ⟨_, _, _, _, o, _, _, e, _⟩ := x; exact ⟨o, e⟩
    | set S n => obtain ⟨o, _, _, _, e, _⟩ := x; exact ⟨o, e⟩
    | ins C dx fs => obtain ⟨_, _, _, e, _⟩ := x; exact ⟨_, e⟩
    | ext φ => obtain ⟨_, ⟨_, e⟩, _⟩ := x; exact ⟨_, e⟩
    | _ => exact False.elim mu
  obtain ⟨od, e⟩ := ex
  have new : ObjOk X.prog X.w (upd H d (.frz od u)) s.heap d (.frz od u) := by
    refine ⟨e, x.stay (fun b v _ q => q) (fun b q => ?_) fun b xs q => ?_⟩
    · rw [upd_ne (fun z => by rw [z, h] at q; cases q; exact mu)]; exact q
    · rw [upd_ne (fun z => by rw [z, h] at q; cases q; exact mu)]; exact q
  exact ⟨od, I.write (x := d) (e := d) (t' := s.toks) (h' := s.heap) (by rw [h]; exact mu) (.inl rfl) (fun b v _ q => q) ⟨od, e⟩ new⟩
theorem Inv.nofrz {d : Addr} {u : HO} (I : Inv X pins σ H s) (h : H d = some u) (mu : Mut (some u)) : ∀ o' u', X.H_0 d ≠ some (.frz o' u') := fun o' u' e => by
  have q := I.base.frzs d o' u' e
  rw [h] at q
  cases q
  exact mu
theorem Inv.unlock {d : Addr} {od : Obj} {u : HO} (I : Inv X pins σ H s) (h : H d = some (.frz od u)) (hn : ∀ o' u', X.H_0 d ≠ some (.frz o' u')) : Inv X pins σ (upd H d u) s := by
  have neH : ∀ b o, H b = some o → (∀ o' u', o ≠ .frz o' u') → b ≠ d := fun b o e hne z => by
    rw [z, h] at e
    cases e
    exact hne _ _ rfl
  have neN : ∀ b, H b = none → b ≠ d := fun b e z => by rw [z, h] at e; cases e
  refine ⟨I.ok, I.os, I.bare, ⟨I.base.keep, I.base.slot, fun b o e n hx => ?_, I.base.there, fun b xs e => ?_, fun b o x e => ?_, fun b ps e => ?_⟩, I.loc, I.cell, ?_, fun x c e => ?_, fun p hp => ?_, fun b o e => ?_, I.len⟩
  · rw [upd_ne (neN b (I.base.free b o e n hx))]; exact I.base.free b o e n hx
  · have q := I.base.tups b xs e
    rw [upd_ne (neH b _ q (fun _ _ z => nomatch z))]; exact q
  · have q := I.base.frzs b o x e
    rw [upd_ne (fun z => by rw [z] at e; exact hn _ _ e)]; exact q
  · obtain ⟨m, q⟩ := I.base.tbls b ps e
    exact ⟨m, by rw [upd_ne (neH b _ q (fun _ _ z => nomatch z))]; exact q⟩
  · rw [upd_ne (neN _ I.free)]; exact I.free
  · rw [upd_ne (neN c (I.freeC x c e))]; exact I.freeC x c e
  · obtain ⟨e, n, r⟩ := I.pin p hp
    exact ⟨e, by rw [upd_ne (neN _ n)]; exact n, r⟩
  · by_cases hb : b = d
    · rw [hb, upd_same] at e
      cases e
      rw [hb]
      obtain ⟨_, x⟩ := I.hok d _ h
      exact x.stay (fun c v _ q => q) (fun c q => by rw [upd_ne (neH c _ q (fun _ _ z => nomatch z))]; exact q) fun c xs q => by rw [upd_ne (neH c _ q (fun _ _ z => nomatch z))]; exact q
    · rw [upd_ne hb] at e
      exact (I.hok b o e).stay (fun c v _ q => q) (fun c q => by rw [upd_ne (neH c _ q (fun _ _ z => nomatch z))]; exact q) fun c xs q => by rw [upd_ne (neH c _ q (fun _ _ z => nomatch z))]; exact q
end
/-- the statement runs while the thing at d is locked (read, not written); d and what stands there are the reading's choice -/
def tLock (t : TS) : TS := fun D σ H => ∃ d u, H d = some u ∧ Mut (some u) ∧ ∀ od, t ⟨fun σ' H' => H' d = some (.frz od u) ∧ D.nx σ' (upd H' d u), fun v H' => H' d = some (.frz od u) ∧ D.rt v (upd H' d u), fun σ' H' => H' d = some (.frz od u) ∧ D.bk σ' (upd H' d u), fun σ' H' => H' d = some (.frz od u) ∧ D.ct σ' (upd H' d u)⟩ σ (upd H d (.frz od u))
section
variable {X : Cx}
theorem ps_lock {st : Stmt} {t : TS} (h : PS X st t) : PS X st (tLock t) := by
  intro pins s σ H D I hw
  obtain ⟨d, u, hd, mu, hw⟩ := hw
  obtain ⟨od, I1⟩ := I.lock hd mu
  refine thn (h pins s σ _ _ I1 (hw od)) fun f s1 q => ?_
  cases f with
  | next => obtain ⟨σ', H', I2, e, q⟩ := q; exact ⟨σ', _, I2.unlock e (I.nofrz hd mu), q⟩
  | brk => obtain ⟨σ', H', I2, e, q⟩ := q; exact ⟨σ', _, I2.unlock e (I.nofrz hd mu), q⟩
  | cont => obtain ⟨σ', H', I2, e, q⟩ := q; exact ⟨σ', _, I2.unlock e (I.nofrz hd mu), q⟩
  | ret v => obtain ⟨x, σ', H', I2, r, e, q⟩ := q; exact ⟨x, σ', _, I2.unlock e (I.nofrz hd mu), r, q⟩

/-! ### one iterator just laid -/
theorem pi_one {tg : Expr} {pins : List (Addr × Obj)} {σ : St} {H : Hp} {s : Shared} {R : It → Hp → Prop} {J : It} {tn : Nat → Heap → Prop} {tk : Nat} (I : Inv X pins σ H s) (o : Obj)
    (T : Turn X.prog X.w X.K tg J [s.heap.objs.size] s.heap.objs.size tn) (st : tn 0 (s.heap.push o)) (q : R J H) : PIE X pins σ tg R (.ref s.heap.objs.size) { s with heap := s.heap.push o, toks := tk } := by
  refine ⟨s.heap.objs.size, [s.heap.objs.size], tn, J, H, rfl, I.kept fun b ob e => Heap.get?_push_of_some _ e, T, st, fun b hb => ?_, q⟩
  have e : b = s.heap.objs.size := by simpa using hb
  subst e
  exact I.fpOk (Nat.le_refl _) (I.hok.fresh (Nat.le_refl _))
end

/-! ### range with a step -/
section
variable {X : Cx} {tg : Expr}
end

/-! ### reversed(list) -/
/-- the list at a (n items at the start, which the loop leaves there), from its end -/
def Itv (K : PySem.W.Frag) (a : Addr) (n : Nat) : It :=
  ⟨fun i H => i < n ∧ ∃ (xs : List V) (x : V), SqL K H a xs ∧ xs[n - 1 - i]? = some x, fun i H x H' => H' = H ∧ ∀ xs, SqL K H a xs → xs[n - 1 - i]? = some x, fun i _ => n ≤ i⟩
theorem turn_rev {P : Program} {w : World} {K : PySem.W.Frag} {tg : Expr} (a it : Addr) (n : Nat) : Turn P w K tg (Itv K a n) [it] it (fun i h => i ≤ n ∧ h.IsRevIter it a ((n : Int) - 1 - (i : Nat))) where
  mem := by simp
  obj := fun i h st b hb => by
    have e : b = it := by simpa using hb
    subst e
    obtain ⟨_, o, e, c, d⟩ := st
    exact ⟨o, e, fun v z => by rw [d] at z; cases z⟩
  keep := fun i h h' st k => ⟨st.1, st.2.at fun o e => k it (by simp) o e⟩
  item := by
    intro X hP hw hK hc i pins s σ H E I hf st hg
    subst hP hw hK
    obtain ⟨hin, xs, x, hq, hx⟩ := hg
    obtain ⟨its, rv, p, hz⟩ := I.list hq
    obtain ⟨u, hu, ru⟩ := rv.get hx
    obtain ⟨f0, f1, f2, f3, f4, f5⟩ := hf it (by simp)
    obtain ⟨_, hit⟩ := st
    have e1 : (n : Int) - 1 - ((i : Nat) : Int) = ((n - 1 - i : Nat) : Int) := by omega
    rw [e1] at hit
    refine wpAny_pyNext_rev_item hit p.isList (x := u) (by simpa using hu) fun h' st' sb => ?_
    have e2 : ((n - 1 - i : Nat) : Int) - 1 = (n : Int) - 1 - ((i + 1 : Nat) : Int) := by omega
    rw [e2] at st'
    have I1 : Inv X pins σ H { s with heap := h' } := I.turned (t' := s.toks) (fun b o hb e => (sb.2 b hb).trans e) f0 f1 f3 f4 f5
    obtain ⟨o, e, c, d⟩ := id st'
    exact ⟨u, rfl, go_of (s := { s with heap := h' }) e c d (by decide) ⟨x, H, I1, ru, ⟨rfl, fun ys hy => by rw [I.list_inj hy hq]; exact hx⟩, ⟨hin, st'⟩, fun b hb => (hf b hb).1⟩⟩
  done := by
    intro X hP hw hK hc i pins s σ H E I hf st hg
    subst hP hw hK
    obtain ⟨f0, f1, f2, f3, f4, f5⟩ := hf it (by simp)
    obtain ⟨hin, hit⟩ := st
    have hge : n ≤ i := hg
    have e1 : (n : Int) - 1 - ((i : Nat) : Int) = -1 := by omega
    rw [e1] at hit
    exact wpAny_pyNext_rev_end (I.ok.hd hc) hit fun h' eb => ⟨rfl, I.turned (t' := s.toks) (fun b o hb e => eb b o hb e) f0 f1 f3 f4 f5⟩
  self := fun A i s Q E st h => wpAny_pyIter_revIter st.2 h
def iRev (K : PySem.W.Frag) (ta : TA) : TI := fun σ H R => ta σ H fun vs H1 => ∃ (a : Addr) (xs : List V), vs = [.ref a] ∧ SqL K H1 a xs ∧ R (Itv K a xs.length) H1
section
variable {X : Cx} {tg : Expr}
theorem pi_reversed {e : Expr} {ta : TA} {p pos : Pos} (hg : Gl X "reversed") (hm : X.mg "reversed" = none) (ha : PA X [e] ta) (hs : starEach [e] X.env = [(false, eval e X.env)] := by rfl) : PI X tg (.Call (.Name "reversed" p) [e] [] pos) (iRev X.K ta) := by
  intro pins s σ H R I h
  refine Call_ (ld_blt I hg hm boot_reversed5 (PyProof.Rows.callWith_type1 (thn (ha pos pins s σ H _ I h) fun us s1 ⟨vs, H1, I1, r1, q1⟩ => ?_) hs rfl))
  obtain ⟨a, xs, e, hq, q⟩ := q1
  subst e
  cases r1 with
  | cons r rr =>
    cases rr
    cases r
    obtain ⟨its, rv, p', hz⟩ := I1.list hq
    have hl := rv.length
    have e1 : ((its.toArray.size : Nat) : Int) - 1 = (xs.length : Int) - 1 - ((0 : Nat) : Int) := by simp only [List.size_toArray]; omega
    refine call_reversed_list p'.isList (wpAny_pyIter_revIter (l := a) (i := ((its.toArray.size : Nat) : Int) - 1) ⟨_, Heap.get?_push_size _ rfl, rfl, rfl⟩ ?_)
    refine pi_one (tk := s1.toks) I1 _ (turn_rev a _ xs.length) ⟨Nat.zero_le _, ?_⟩ q
    rw [← e1]
    exact ⟨_, Heap.get?_push_size _ rfl, rfl, rfl⟩
end

/-! ### a str -/

/-! ### a dict's keys: any dict's entries -/
section
variable {prog : Program} {w : World} {A : Around} {E : Value → Shared → Prop} {s : Shared}
theorem iter_keys {d : Addr} {o : Obj} {es : Array DictEntry} {ep : Nat} {Q : Value → Shared → Prop} (hd : (d == sysModules) = false) (ho : s.heap.get? d = some o) (hc : o.ExactDict) (hdat : o.data = .dict es ep)
    (hQ : Q (.ref s.heap.objs.size) { s with heap := s.heap.push { cls := .type "dict_keyiterator", data := .fields #[.ref d, .int 0 0, .int es.size 0, .int ep 0] } }) :
    wpAny (model prog w) A (pyIter (.ref d)) Q E s := by
  have hT : s.TypeIs (.ref d) "dict" := ⟨o, ho, hc.1⟩
  refine wpAny_pyIter_slot hT F.slot_dict_iter (wpAny_call_entry F.slot_dict_iter hT F.entry_dict_iter ?_ (F.args_dict_iter_1 _))
  unfold Builtin.«dict.__iter__»
  refine wpAny_bind ?_
  unfold Builtin.Dict.dictSlotNone
  refine wpAny_bind (wpAny_notOrdered_dict hT ?_)
  show wpAny _ _ (pure (Value.ref d)) _ _ s
  refine wpAny_pure ?_
  show wpAny _ _ (Builtin.Dict.showsAll d >>= _) _ _ s
  unfold Builtin.Dict.showsAll
  rw [if_neg (by rw [hd]; exact Bool.false_ne_true)]
  refine wpAny_bind (wpAny_pure ?_)
  refine wpAny_bind (wpAny_dictEntries ho hdat ?_)
  refine wpAny_bind (wpAny_dictEpoch ho hdat ?_)
  refine wpAny_bind (wpAny_newObj_type (wpAny_pure ⟨_, rfl, "dict_keyiterator", _, ⟨_, Heap.get?_push_size _ rfl, rfl⟩, F.slot_dict_keyiterator_next.lookup, ?_⟩))
  simpa [rawInt] using hQ
theorem next_key_item {it d : Addr} {i n ep : Nat} {od : Obj} {es : Array DictEntry} {en : DictEntry} {Q : Option Value → Shared → Prop} (hit : s.heap.IsKeyIter it d i n ep) (hod : s.heap.get? d = some od) (hdd : od.data = .dict es ep)
    (hsz : es.size = n) (hx : es[i]? = some en) (hQ : ∀ h', h'.IsKeyIter it d (i + 1) n ep → Heap.SameBut it s.heap h' → Q (some en.key) { s with heap := h' }) : wpAny (model prog w) A (pyNext (.ref it)) Q E s := by
  obtain ⟨o, ho, hc, hd⟩ := id hit
  unfold pyNext
  refine wpAny_bind (wpAny_attempt (wpAny_callSpecial?_slot (name := Str.ofString "__next__") hit.typeIs F.slot_dict_keyiterator_next
    (wpAny_call_entry F.slot_dict_keyiterator_next hit.typeIs F.entry_dict_keyiterator_next ?_ (F.args_dict_keyiterator_next_1 _))))
  refine wpAny_bind (wpAny_pure ?_)
  refine wpAny_bind ?_
  refine wpAny_bind ?_
  first | refine wpAny_bind (wpAny_typeNameOfWhole_keyiter hit.typeIs (wpAny_pure ?_)) | refine wpAny_bind (wpAny_typeNameOf_keyiter hit.typeIs (wpAny_pure ?_))
  refine wpAny_bind (wpAny_fieldsOf ho hd ?_)
  have hown : Builtin.Dict_items.ownsTuple "dict_keyiterator" = false := by decide
  simp only [hown, Bool.false_eq_true, if_false]
  show wpAny _ _ (if (Value.ref d == Value.none) = true then _ else _) _ _ s
  rw [if_neg (show ¬ ((Value.ref d == Value.none) = true) from Bool.false_ne_true)]
  refine wpAny_bind (wpAny_pure ?_)
  refine wpAny_bind (wpAny_dictEntries hod hdd ?_)
  rw [if_neg (by rw [hsz]; simp)]
  refine wpAny_bind (wpAny_pure ?_)
  refine wpAny_bind (wpAny_dictEpoch hod hdd ?_)
  rw [if_neg (by simp)]
  refine wpAny_pure ?_
  obtain ⟨hlt', hen⟩ := Array.getElem?_eq_some_iff.mp hx
  simp only [show ¬ ((i : Int) < 0) from by omega, if_false, Int.toNat_natCast, Array.getElem?_eq_getElem hlt']
  refine wpAny_bind ?_
  first | refine wpAny_bind (wpAny_typeNameOfWhole_keyiter hit.typeIs (wpAny_pure ?_)) | refine wpAny_bind (wpAny_typeNameOf_keyiter hit.typeIs (wpAny_pure ?_))
  refine wpAny_bind (wpAny_isOneOf_keyiter hit.typeIs ?_)
  show wpAny _ _ (setField (.ref it) 1 (rawInt ((i : Int) + 1)) >>= _) _ _ s
  refine wpAny_bind (wpAny_setField ho hd (by simp) ?_)
  have hit' : (s.heap.update it (Obj.mapFields (·.setIfInBounds 1 (rawInt ((i : Int) + 1))))).IsKeyIter it d (i + 1) n ep :=
    ⟨_, Heap.get?_update_self _ ho (Obj.isFreed_of_fields (Obj.data_mapFields hd _)), (Obj.cls_mapFields ..).trans hc, by rw [Obj.data_mapFields hd]; simp [rawInt]⟩
  refine wpAny_bind (wpAny_holding ?_)
  refine wpAny_bind (wpAny_isOneOf_keyiter (s := { s with heap := s.heap.update it (Obj.mapFields (·.setIfInBounds 1 (rawInt ((i : Int) + 1)))) }) hit'.typeIs ?_)
  show wpAny _ _ (pure es[i].key) _ _ _
  rw [hen]
  exact wpAny_pure (wpAny_pure ⟨_, rfl, wpAny_pure (hQ _ hit' (Heap.SameBut.update ..))⟩)
theorem next_key_end {it d : Addr} {i n ep : Nat} {od : Obj} {es : Array DictEntry} {Q : Option Value → Shared → Prop} (hh : A.handled = none) (hit : s.heap.IsKeyIter it d i n ep) (hod : s.heap.get? d = some od) (hdd : od.data = .dict es ep)
    (hsz : es.size = n) (hge : n ≤ i) (hQ : ∀ h', Heap.ExtBut it s.heap h' → Q none { s with heap := h' }) : wpAny (model prog w) A (pyNext (.ref it)) Q E s := by
  obtain ⟨o, ho, hc, hd⟩ := id hit
  unfold pyNext
  refine wpAny_bind (wpAny_attempt (wpAny_callSpecial?_slot (name := Str.ofString "__next__") hit.typeIs F.slot_dict_keyiterator_next
    (wpAny_call_entry F.slot_dict_keyiterator_next hit.typeIs F.entry_dict_keyiterator_next ?_ (F.args_dict_keyiterator_next_1 _))))
  refine wpAny_bind (wpAny_pure ?_)
  refine wpAny_bind ?_
  refine wpAny_bind ?_
  first | refine wpAny_bind (wpAny_typeNameOfWhole_keyiter hit.typeIs (wpAny_pure ?_)) | refine wpAny_bind (wpAny_typeNameOf_keyiter hit.typeIs (wpAny_pure ?_))
  refine wpAny_bind (wpAny_fieldsOf ho hd ?_)
  have hown : Builtin.Dict_items.ownsTuple "dict_keyiterator" = false := by decide
  simp only [hown, Bool.false_eq_true, if_false]
  show wpAny _ _ (if (Value.ref d == Value.none) = true then _ else _) _ _ s
  rw [if_neg (show ¬ ((Value.ref d == Value.none) = true) from Bool.false_ne_true)]
  refine wpAny_bind (wpAny_pure ?_)
  refine wpAny_bind (wpAny_dictEntries hod hdd ?_)
  rw [if_neg (by rw [hsz]; simp)]
  refine wpAny_bind (wpAny_pure ?_)
  refine wpAny_bind (wpAny_dictEpoch hod hdd ?_)
  rw [if_neg (by simp)]
  refine wpAny_pure ?_
  have hge' : es.size ≤ i := by rw [hsz]; exact hge
  simp only [show ¬ ((i : Int) < 0) from by omega, if_false, Int.toNat_natCast, Array.getElem?_eq_none hge']
  refine wpAny_bind ?_
  first | refine wpAny_bind (wpAny_typeNameOfWhole_keyiter hit.typeIs (wpAny_pure ?_)) | refine wpAny_bind (wpAny_typeNameOf_keyiter hit.typeIs (wpAny_pure ?_))
  show wpAny _ _ (setField (.ref it) 0 .none >>= _) _ _ s
  refine wpAny_bind (wpAny_setField ho hd (by simp) ?_)
  show wpAny _ _ (newExc (.type "StopIteration") [] >>= _) _ _ _
  refine wpAny_bind ?_
  simp only [newExc, newTuple]
  refine wpAny_bind (wpAny_newObj_type ?_ (by size_fits))
  refine wpAny_bind (m := firstArgMember _ _) (wpAny_of_eq (a := Value.none) (by first | rfl | (simp only [firstArgMember]; rfl)) ?_)
  refine wpAny_newObj_type ?_ (by size_fits)
  simp only [raiseNew]
  refine wpAny_bind (wpAny_handled ?_)
  rw [show A.in1.handled = none from hh]
  refine wpAny_bind (wpAny_pure (wpAny_throw ?_))
  refine wpAny_bind (wpAny_isInstance (T := "StopIteration") (b := true) ⟨_, Heap.get?_push_size _ rfl, rfl⟩ isSubtype_stop ?_)
  exact wpAny_pure (hQ _ (((Heap.SameBut.update ..).extBut.push _).push _))
end

/-! ### a locked dict -/
theorem kv_get {κ : Type} {kvs : List (κ × V)} {vs : List (κ × Value)} (h : KV kvs vs) : ∀ {i : Nat} {k : κ} {v : V}, kvs[i]? = some (k, v) → ∃ u, vs[i]? = some (k, u) ∧ RelV v u := by
  unfold KV at h
  induction h with
  | nil => intro i k v e; simp at e
  | @cons a b l₁ l₂ r t ih =>
    intro i k v e
    cases i with
    | zero =>
      simp only [List.getElem?_cons_zero, Option.some.injEq] at e
      subst e
      refine ⟨b.2, ?_, r.2⟩
      simp only [List.getElem?_cons_zero]
      exact congrArg some (Prod.ext r.1.symm rfl)
    | succ j =>
      simp only [List.getElem?_cons_succ] at e ⊢
      exact ih e
theorem paired_get {α β : Type} {G : α → β → Prop} {l₁ : List α} {l₂ : List β} (h : Paired G l₁ l₂) : ∀ {i : Nat} {a : α}, l₁[i]? = some a → ∃ b, l₂[i]? = some b ∧ G a b := by
  induction h with
  | nil => intro i a e; simp at e
  | @cons a b l₁ l₂ r t ih =>
    intro i a' e
    cases i with
    | zero =>
      simp only [List.getElem?_cons_zero, Option.some.injEq] at e
      subst e
      exact ⟨b, rfl, r⟩
    | succ j =>
      simp only [List.getElem?_cons_succ] at e ⊢
      exact ih e
theorem relV_key {k : Key} {u : Value} (h : keyIs k u = true) : RelV (kV k) u := by
  rcases keyIs_shape h with ⟨i, t, rfl, rfl⟩ | ⟨x, t, rfl, rfl⟩
  · exact ⟨t, rfl⟩
  · exact ⟨t, rfl⟩
section
variable {X : Cx} {pins : List (Addr × Obj)} {σ : St} {H : Hp} {s : Shared} {d : Addr} {o : Obj}
theorem Inv.frzK {kvs : List (Key × V)} (I : Inv X pins σ H s) (h : H d = some (.frz o (.dK kvs))) :
    (d == sysModules) = false ∧ s.heap.get? d = some o ∧ o.ExactDict ∧ ∃ (es : Array DictEntry) (ep : Nat) (vs : List (Key × Value)), o.data = .dict es ep ∧ es.size = kvs.length ∧ KV kvs vs ∧ s.heap.DictAt (mixKind X.prog X.w) d vs ep := by
  obtain ⟨hd, z, hs, vs, kv, o', es, ep, ho, hx, hdt, r⟩ := I.hok d _ h
  rw [hd] at ho
  cases ho
  refine ⟨hs, hd, hx, es, ep, vs, hdt, ?_, kv, o, es, hd, hx, hdt, r⟩
  have l1 := r.2.1.length
  have l2 : kvs.length = vs.length := Paired.length kv
  rw [Array.length_toList] at l1
  omega
/-- the same for tuple keys -/
theorem Inv.frzT {kvs : List (List Key × V)} (I : Inv X pins σ H s) (h : H d = some (.frz o (.dT kvs))) :
    (d == sysModules) = false ∧ s.heap.get? d = some o ∧ o.ExactDict ∧ ∃ (es : Array DictEntry) (ep : Nat), o.data = .dict es ep ∧ es.size = kvs.length ∧
      ∀ (i : Nat) (k : List Key) (v : V), kvs[i]? = some (k, v) → ∃ (en : DictEntry) (q : Addr), es[i]? = some en ∧ en.key = .ref q ∧ H q = some (.tup (k.map kV)) := by
  obtain ⟨hd, z, hs, xs, pr, o', es, ep, ho, hx, hdt, he, _⟩ := I.hok d _ h
  rw [hd] at ho
  cases ho
  refine ⟨hs, hd, hx, es, ep, hdt, ?_, fun i k v e => ?_⟩
  · have l1 : es.size = xs.length := size_of_entries he
    have l2 : kvs.length = xs.length := Paired.length pr
    omega
  · obtain ⟨b, hb, e1, e2, _⟩ := paired_get pr e
    have q := entry_at he i
    rw [hb] at q
    exact ⟨_, b.2.1, q, rfl, e2⟩
end

/-- the keys of the locked dict at d, in their order -/
def Itk (d : Addr) (o : Obj) (kvs : List (Key × V)) : It :=
  ⟨fun i H => H d = some (.frz o (.dK kvs)) ∧ i < kvs.length, fun i H x H' => H' = H ∧ ∃ k v, kvs[i]? = some (k, v) ∧ x = kV k, fun i H => H d = some (.frz o (.dK kvs)) ∧ kvs.length ≤ i⟩
/-- .. of tuple keys: the key's own tuple -/
def Itkt (d : Addr) (o : Obj) (kvs : List (List Key × V)) : It :=
  ⟨fun i H => H d = some (.frz o (.dT kvs)) ∧ i < kvs.length, fun i H x H' => H' = H ∧ ∃ (k : List Key) (v : V) (q : Addr), kvs[i]? = some (k, v) ∧ x = .ref q ∧ H q = some (.tup (k.map kV)), fun i H => H d = some (.frz o (.dT kvs)) ∧ kvs.length ≤ i⟩
theorem dict_ep {o : Obj} {es es' : Array DictEntry} {ep ep' : Nat} (h : o.data = .dict es ep) (h' : o.data = .dict es' ep') : es' = es ∧ ep' = ep := by
  rw [h] at h'
  cases h'
  exact ⟨rfl, rfl⟩
section
variable {P : Program} {w : World} {K : PySem.W.Frag} {tg : Expr} {d : Addr} {o : Obj} {es : Array DictEntry} {ep : Nat}
theorem turn_keys {kvs : List (Key × V)} (it : Addr) (hod : o.data = .dict es ep) : Turn P w K tg (Itk d o kvs) [it] it (fun i h => h.IsKeyIter it d i kvs.length ep) where
  mem := by simp
  obj := fun i h st b hb => by
    have e : b = it := by simpa using hb
    subst e
    obtain ⟨oi, e, c, dd⟩ := st
    exact ⟨oi, e, fun v z => by rw [dd] at z; cases z⟩
  keep := fun i h h' st k => st.at fun oi e => k it (by simp) oi e
  item := by
    intro X hP hw hK hc i pins s σ H E I hf st hg
    subst hP hw hK
    obtain ⟨hd, hi⟩ := hg
    obtain ⟨f0, f1, f2, f3, f4, f5⟩ := hf it (by simp)
    obtain ⟨hs, hgd, hx, es', ep', vs, hdt, hsz, kv, hm⟩ := I.frzK hd
    obtain ⟨rfl, rfl⟩ := dict_ep hod hdt
    obtain ⟨⟨k, v⟩, hkv⟩ : ∃ p, kvs[i]? = some p := ⟨kvs[i], List.getElem?_eq_getElem hi⟩
    obtain ⟨u, hu, ru⟩ := kv_get kv hkv
    have hl : kvs.length = vs.length := Paired.length kv
    rw [hl] at st
    refine wpAny_pyNext_dict_item st hm hu fun key h' hkey st' sb => ?_
    have I1 : Inv X pins σ H { s with heap := h' } := I.turned (t' := s.toks) (fun b ob hb e => (sb.2 b hb).trans e) f0 f1 f3 f4 f5
    obtain ⟨oi, e, c, dd⟩ := id st'
    refine ⟨key, rfl, go_of (s := { s with heap := h' }) e c dd (by decide) ⟨kV k, H, I1, relV_key (show keyIs k key = true from hkey), ⟨rfl, k, v, hkv, rfl⟩, ?_, fun b hb => (hf b hb).1⟩⟩
    show h'.IsKeyIter it d (i + 1) kvs.length _
    rw [hl]
    exact st'
  done := by
    intro X hP hw hK hc i pins s σ H E I hf st hg
    subst hP hw hK
    obtain ⟨hd, hi⟩ := hg
    obtain ⟨f0, f1, f2, f3, f4, f5⟩ := hf it (by simp)
    obtain ⟨hs, hgd, hx, es', ep', vs, hdt, hsz, kv, hm⟩ := I.frzK hd
    obtain ⟨rfl, rfl⟩ := dict_ep hod hdt
    exact next_key_end (I.ok.hd hc) st hgd hdt hsz hi fun h' eb => ⟨rfl, I.turned (t' := s.toks) (fun b ob hb e => eb b ob hb e) f0 f1 f3 f4 f5⟩
  self := fun A i s Q E st h => wpAny_pyIter_keyiter st h
theorem turn_keysT {kvs : List (List Key × V)} (it : Addr) (hod : o.data = .dict es ep) : Turn P w K tg (Itkt d o kvs) [it] it (fun i h => h.IsKeyIter it d i kvs.length ep) where
  mem := by simp
  obj := fun i h st b hb => by
    have e : b = it := by simpa using hb
    subst e
    obtain ⟨oi, e, c, dd⟩ := st
    exact ⟨oi, e, fun v z => by rw [dd] at z; cases z⟩
  keep := fun i h h' st k => st.at fun oi e => k it (by simp) oi e
  item := by
    intro X hP hw hK hc i pins s σ H E I hf st hg
    subst hP hw hK
    obtain ⟨hd, hi⟩ := hg
    obtain ⟨f0, f1, f2, f3, f4, f5⟩ := hf it (by simp)
    obtain ⟨hs, hgd, hx, es', ep', hdt, hsz, ent⟩ := I.frzT hd
    obtain ⟨rfl, rfl⟩ := dict_ep hod hdt
    obtain ⟨⟨k, v⟩, hkv⟩ : ∃ p, kvs[i]? = some p := ⟨kvs[i], List.getElem?_eq_getElem hi⟩
    obtain ⟨en, q, hen, hkey, hq⟩ := ent i k v hkv
    refine next_key_item st hgd hdt hsz hen fun h' st' sb => ?_
    have I1 : Inv X pins σ H { s with heap := h' } := I.turned (t' := s.toks) (fun b ob hb e => (sb.2 b hb).trans e) f0 f1 f3 f4 f5
    obtain ⟨oi, e, c, dd⟩ := id st'
    exact ⟨en.key, rfl, go_of (s := { s with heap := h' }) e c dd (by decide) ⟨.ref q, H, I1, hkey, ⟨rfl, k, v, q, hkv, rfl, hq⟩, st', fun b hb => (hf b hb).1⟩⟩
  done := by
    intro X hP hw hK hc i pins s σ H E I hf st hg
    subst hP hw hK
    obtain ⟨hd, hi⟩ := hg
    obtain ⟨f0, f1, f2, f3, f4, f5⟩ := hf it (by simp)
    obtain ⟨hs, hgd, hx, es', ep', hdt, hsz, ent⟩ := I.frzT hd
    obtain ⟨rfl, rfl⟩ := dict_ep hod hdt
    exact next_key_end (I.ok.hd hc) st hgd hdt hsz hi fun h' eb => ⟨rfl, I.turned (t' := s.toks) (fun b ob hb e => eb b ob hb e) f0 f1 f3 f4 f5⟩
  self := fun A i s Q E st h => by
    refine wpAny_pyIter_slot st.typeIs F.slot_dict_keyiterator_iter (wpAny_call_entry F.slot_dict_keyiterator_iter st.typeIs F.entry_dict_keyiterator_iter ?_ (F.args_dict_keyiterator_iter_1 _))
    show wpAny _ _ (ret (.ref it)) _ _ s
    exact wpAny_pure ⟨_, rfl, "dict_keyiterator", _, st.typeIs, F.slot_dict_keyiterator_next.lookup, h⟩
end

/-! ### for k in d, d.keys(), d.values(), d.items() -/
/-- the dict is locked (tLock, or by the caller) -/
def iKeys (td : TE) : TI := fun σ H R => td σ H fun x H1 => ∃ d o, x = .ref d ∧ ((∃ kvs, H1 d = some (.frz o (.dK kvs)) ∧ R (Itk d o kvs) H1) ∨ ∃ kvs, H1 d = some (.frz o (.dT kvs)) ∧ R (Itkt d o kvs) H1)
section
variable {X : Cx} {tg e : Expr} {td : TE} {apos cpos : Pos}
theorem pi_keys (he : PE X e td) : PI X tg e (iKeys td) := by
  intro pins s σ H R I h
  refine thn (he pins s σ H _ I h) fun u s1 ⟨x, H1, I1, rx, d, o, ex, q⟩ => ?_
  subst ex
  obtain rfl : u = Value.ref d := rx
  rcases q with ⟨kvs, hd, q⟩ | ⟨kvs, hd, q⟩
  · obtain ⟨hs, hgd, hx, es, ep, vs, hdt, hsz, kv, hm⟩ := I1.frzK hd
    refine iter_keys hs hgd hx hdt (pi_one (tk := s1.toks) I1 _ (turn_keys _ hdt) ⟨_, Heap.get?_push_size _ rfl, rfl, ?_⟩ q)
    rw [hsz] <;> rfl
  · obtain ⟨hs, hgd, hx, es, ep, hdt, hsz, ent⟩ := I1.frzT hd
    refine iter_keys hs hgd hx hdt (pi_one (tk := s1.toks) I1 _ (turn_keysT _ hdt) ⟨_, Heap.get?_push_size _ rfl, rfl, ?_⟩ q)
    rw [hsz] <;> rfl
end

/-! ### enumerate(list) -/
/-- the list at a as it stands at each turn, each item in a new pair -/
def Ite (K : PySem.W.Frag) (a : Addr) : It :=
  ⟨fun i H => ∃ (xs : List V) (x : V), SqL K H a xs ∧ xs[i]? = some x, fun i H v H' => ∃ T x, v = .ref T ∧ H T = none ∧ H' = upd H T (.tup [.int (i : Nat), x]) ∧ ∀ xs, SqL K H a xs → xs[i]? = some x, fun i H => ∃ xs : List V, SqL K H a xs ∧ xs.length ≤ i⟩
theorem turn_enum {P : Program} {w : World} {K : PySem.W.Frag} {elts : List Expr} {kk : Nat} {tpos : Pos} (a e it : Addr) :
    Turn P w K (.Tuple elts kk tpos) (Ite K a) [e, it] e (fun i h => (∃ old, IsEnum h e it ((i : Nat) : Int) old) ∧ h.IsListIter it a i ∧ e ≠ it) where
  mem := by simp
  obj := fun i h st b hb => by
    obtain ⟨⟨old, he⟩, ⟨o, ho, hc, hd⟩, _⟩ := st
    have e' : b = e ∨ b = it := by simpa using hb
    rcases e' with z | z
    · rw [z]; exact ⟨_, he, fun v q => nomatch q⟩
    · rw [z]; exact ⟨o, ho, fun v q => by rw [hd] at q; cases q⟩
  keep := fun i h h' st k => let ⟨⟨old, he⟩, hi, hne⟩ := st; ⟨⟨old, k e (by simp) _ he⟩, hi.at fun o q => k it (by simp) o q, hne⟩
  item := by
    intro X hP hw hK hc i pins s σ H E I hf st hg
    subst hP hw hK
    obtain ⟨⟨old, he⟩, hit, hne⟩ := st
    obtain ⟨xs, x, hq, hx⟩ := hg
    obtain ⟨its, rv, p, hz⟩ := I.list hq
    obtain ⟨u, hu, ru⟩ := rv.get hx
    have hel : e < s.heap.objs.size := Heap.lt_size he
    have hil : it < s.heap.objs.size := by obtain ⟨_, q, _⟩ := hit; exact Heap.lt_size q
    refine wpAny_pyNext_enum_item he hit p.isList (x := u) (by simpa using hu) hne fun h' ho hit' hT hsz hk => ?_
    refine ⟨_, rfl, wpAny_letOwnedTupleGo_enum (s := { s with heap := h', toks := s.toks + 1 }) ho fun h'' he' sb => ?_⟩
    have hT2 : h''.get? s.heap.objs.size = some { cls := .type "tuple", data := .seq #[.int i s.toks, u] } := (sb.2 _ (Nat.ne_of_gt hel)).trans hT
    have new : ObjOk X.prog X.w (upd H s.heap.objs.size (.tup [.int (i : Nat), x])) h'' s.heap.objs.size (.tup [.int (i : Nat), x]) :=
      ⟨by show 2 ≤ sizeLine; decide, [.int i s.toks, u], .cons ⟨_, rfl⟩ (.cons ru .nil), ⟨_, hT2, rfl, _, rfl⟩⟩
    have I1 : Inv X pins σ (upd H s.heap.objs.size (.tup [.int (i : Nat), x])) { s with heap := h'', toks := s.toks + 1 } :=
      I.turnedNew (ch := [e, it]) (fun b ob hb q => (sb.2 b (fun z => hb (by simp [z]))).trans (hk b ob (fun z => hb (by simp [z])) (fun z => hb (by simp [z])) q)) hf (Nat.le_refl _) new
    refine ⟨.ref s.heap.objs.size, _, I1, rfl, ⟨_, x, rfl, I.hok.fresh (Nat.le_refl _), rfl, fun ys hy => by rw [I.list_inj hy hq]; exact hx⟩, ⟨⟨u, ?_⟩, hit'.at fun o q => (sb.2 it (Ne.symm hne)).trans q, hne⟩, fun b hb => ?_⟩
    · have e1 : ((i + 1 : Nat) : Int) = (i : Int) + 1 := by omega
      rw [e1]; exact he'
    · have hb' : b < s.heap.objs.size := by
        have e' : b = e ∨ b = it := by simpa using hb
        rcases e' with z | z
        · rw [z]; exact hel
        · rw [z]; exact hil
      rw [upd_ne (Nat.ne_of_lt hb')]
      exact (hf b hb).1
  done := by
    intro X hP hw hK hc i pins s σ H E I hf st hg
    subst hP hw hK
    obtain ⟨⟨old, he⟩, hit, hne⟩ := st
    obtain ⟨xs, hq, hx⟩ := hg
    obtain ⟨its, rv, p, hz⟩ := I.list hq
    obtain ⟨f0, f1, f2, f3, f4, f5⟩ := hf it (by simp)
    have hl := rv.length
    exact wpAny_pyNext_enum_end (I.ok.hd hc) he hit p.isList (by simp; omega) fun h' eb => ⟨rfl, I.turned (t' := s.toks) (fun b o hb q => eb b o hb q) f0 f1 f3 f4 f5⟩
  self := fun A i s Q E st h => let ⟨⟨_, he⟩, _⟩ := st; wpAny_pyIter_enum he h
def iEnum (K : PySem.W.Frag) (ta : TA) : TI := fun σ H R => ta σ H fun vs H1 => ∃ a xs, vs = [.ref a] ∧ SqL K H1 a xs ∧ R (Ite K a) H1
theorem pi_enum {X : Cx} {e : Expr} {ta : TA} {p pos tpos : Pos} {elts : List Expr} {kk : Nat} (hg : Gl X "enumerate") (hm : X.mg "enumerate" = none) (ha : PA X [e] ta) (hs : starEach [e] X.env = [(false, eval e X.env)] := by rfl) :
    PI X (.Tuple elts kk tpos) (.Call (.Name "enumerate" p) [e] [] pos) (iEnum X.K ta) := by
  intro pins s σ H R I h
  refine Call_ (ld_blt I hg hm boot_enumerate (PyProof.Rows.callWith_type1 (thn (ha pos pins s σ H _ I h) fun us s1 ⟨vs, H1, I1, r1, q1⟩ => ?_) hs rfl))
  obtain ⟨a, xs, ex, hq, q⟩ := q1
  subst ex
  cases r1 with
  | cons r rr =>
    cases rr
    cases r
    obtain ⟨its, rv, p', hz⟩ := I1.list hq
    refine call_enumerate_list p'.isList fun h' he hit hsz hk => wpAny_pyIter_enum he ?_
    have I2 : Inv X pins σ H1 { s1 with heap := h' } := I1.kept (t' := s1.toks) hk
    refine ⟨s1.heap.objs.size + 1, [s1.heap.objs.size + 1, s1.heap.objs.size], _, _, H1, rfl, I2, turn_enum a (s1.heap.objs.size + 1) s1.heap.objs.size, ⟨⟨.none, he⟩, hit, Nat.succ_ne_self _⟩, fun b hb => ?_, q⟩
    have e' : b = s1.heap.objs.size + 1 ∨ b = s1.heap.objs.size := by simpa using hb
    have hle : s1.heap.objs.size ≤ b := by
      rcases e' with z | z
      · rw [z]; exact Nat.le_add_right _ _
      · rw [z]; exact Nat.le_refl _
    exact I1.fpOk hle (I1.hok.fresh hle)
/-! ### zip(list, list) -/
end L2

section 
namespace Bits
open PySem PyProof.Rows

end Bits
end 

section 
namespace TL
open PySem PySem.Builtin PySem.Builtin.Str PySem.StrLaws

/-! ### the list functions -/

/-! ### the model's split and partition are these -/

/-! ### computing spl and par -/

/-! ### digits -/

/-! ### words: x.split() -/
end TL
end 

namespace L2
open PySem PySem.Spec PyProof.Rows

section
variable {X : Cx} {pins : List (Addr × Obj)} {σ : St} {H : Hp} {s : Shared} {Q : VK}
end

section
variable {X : Cx}

/-! ### of a text alone -/

/-! ### of a text and a text -/

end

section
variable {X : Cx} {o e : Expr} {to te : TE}

end
end L2

namespace L2
open PySem PySem.Spec PyProof.Rows

section
variable {X : Cx}
end

/-! ### slices of a text -/

end L2

namespace Att
open PySem PySem.W PySem.Calls PyProof.Rows

/-! ### the script -/

/-! ### the attachment: holds_open's last premise (the goal 'hc' behind k_head) from a wpAny of the law's body -/

/-! ### rules over ANY heap (no ledger) from facts about the written part K: the library's own take a ledger (News) for what they write -/
section
variable {prog : Program} {w : World} {A : Around} {E : Value → Shared → Prop} {s : Shared} {K : Frag}

/-! the whole heap as the ledger: makes every rule that writes through a ledger a rule over any heap -/

end
end Att

namespace L2
open PySem PySem.Spec PyProof.Rows

end L2

namespace L2
open PySem PySem.Spec PyProof.Rows

end L2

/- THE LAST THEOREM (shape; LID, My.* are yours):
   My.Adr: a structure of the addresses that your layer names (classes, functions); My.Txt K t: a structure (Prop) of the equations over K;
   My.txt_mk : {K} {implicit addresses ..} (e1 : nsIn K mainGlobals "law" = some (some (.ref f))) (e2 : K.lookup f = some ⟨oc, od, .func (fnOf "law" "law" params body scope dV kV doc pm an cdv ct), sl⟩) (e3 : codeIn K cdv "law" = true) .. : ∃ t, My.Txt K t

set_option maxRecDepth 100000 in
set_option maxHeartbeats 0 in
theorem PySem.Challenge.cw_LID_holds : PySem.Challenge.rw_LID.Holds := by
  w_on; o_law; k_head; (case hw => w_witness2)
  k_fill
  refine L2.walk_of (l := PySem.Challenge.rw_LID) (n := 63) (k := 40) (x := "script") (CX := fun w => ..) (sp := fun _ => My.sp_law) rfl (by decide) rfl ⟨rfl, by decide, by decide⟩ (fun w h Y => PySem.W.kIn_of Y) ?F ?S ?C
  case F =>
    intro w mg fa h KX G hmg
    have T : ∃ t, My.Txt (L2.KOf KX) t := by
      dsimp only [L2.KOf]                          -- K must stand as «<heap const> w.params» for k_is
      refine' My.txt_mk ?e1 ?e2 ?e3 ..
      (case e1 => PySem.W.k_is)                    -- in the order: a name -> its address -> its object -> its parts
      (case e2 => PySem.W.k_is)
      ..
    obtain ⟨t, T⟩ := T
    have e0 := hmg.symm.trans (PySem.W.mg_of KX G T.law)
    cases e0                                       -- fa is the law's own address
    exact ⟨_, fun s u => .of_eq rfl, fun base kb nb => My.law_fn T kb nb⟩     -- if «.of_eq rfl» comes too early: refine' ⟨_, ?b, fun base kb nb => My.law_fn T kb nb⟩; exact fun s u => .of_eq rfl
  case S => exact fun w H a ns hl hO hS => ..
  case C => exact ..
(the tactic k_is has no namespace: write k_is) -/

/-! SHORT WORDS over the layer: a def of the text, its body, what a loop and a test want. -/
namespace L2
open PySem PySem.Spec PyProof.Rows

/-! ### the text by places -/
/-- the j-th statement of a class's body -/
def inClass (s : Stmt) (j : Nat) : Stmt := match s with
  | .ClassDef _ _ _ body _ _ _ _ _ _ _ => body.getD j (.Pass ⟨0, 0, 0, 0⟩)
  | _ => .Pass ⟨0, 0, 0, 0⟩
def defArgs (s : Stmt) : Arguments := match s with
  | .FunctionDef _ a _ _ _ _ _ _ _ _ => a
  | _ => { posonlyargs := [], args := [], vararg := none, kwonlyargs := [], kw_defaults := [], kwarg := none, defaults := [] }
def defBody (s : Stmt) : List Stmt := match s with
  | .FunctionDef _ _ b _ _ _ _ _ _ _ => b
  | _ => []
def defScope (s : Stmt) : Scope := match s with
  | .FunctionDef _ _ _ _ _ _ sc _ _ _ => sc
  | _ => { kind := .function, names := [], isGenerator := false, isCoroutine := false }

/-! ### no exception leaves a def -/
abbrev CX0 : CXT := fun _ _ _ _ _ _ => False
abbrev E0 : XK := fun _ _ _ => False
theorem pass0 {X : Cx} : Passes CX0 X E0 := fun _ _ _ _ _ _ _ h => h.elim

/-! ### a def (or method) of the text as it stands behind the top -/
structure Fun (K : PySem.W.Frag) (x qual : Str) (st : Stmt) (f : Addr) (fd : FuncData) : Prop where
  ex : ∃ (oc : Value) (od : Option Addr) (kV doc pm : Value) (an : Option Addr) (cdv ct : Value) (osl : Array (Option Value)),
    fd = PySem.W.fnOf x qual (defArgs st) (defBody st) (defScope st) .none kV doc pm an cdv ct ∧ K.lookup f = some ⟨oc, od, .func fd, osl⟩ ∧ PySem.W.codeIn K cdv qual = true
  kp : PySem.W.keepIn K (.ref f) = true
section
variable {P : Program} {w : World} {K : PySem.W.Frag} {mg : Str → Option Value} {base : Heap}
/-- THE RULE for a def: its body as a term of rules, and the reading of that term -/
theorem Fun.ok {x qual : Str} {st : Stmt} {f : Addr} {fd : FuncData} {N ps : List Str} {k : Nat} {sp : Sp} (F : Fun K x qual st f fd) (S : FnScope N ps (defScope st)) (len : ∀ vs H Q E, sp vs H Q E → vs.length = ps.length)
    (hbody : ∀ (cdv : Value) (A : Around) (outer : List Env) (s : Shared) (H : Hp) (vs : List V) (Q : VK) (E : XK), Room k (A.deeper (envOfC qual (defScope st) s.heap.objs.size f cdv)) → sp vs H Q E →
      ∃ t, PSs (cxOf CX0 P w K mg base N qual (defScope st) f cdv A outer s H E).nox (defBody st) t ∧ t { nx := fun _ H' => Q .non H', rt := Q } (start N vs) H) : FnOk P w K mg base CX0 (k + 1) f fd ps sp := by
  obtain ⟨oc, od, kV, doc, pm, an, cdv, ct, osl, rfl, lk, hcd⟩ := F.ex
  refine fn_of lk hcd S len fun A outer s H vs Q E hr hsp => ?_
  obtain ⟨t, h, q⟩ := hbody cdv A outer s H vs Q E hr hsp
  exact ⟨t, h.nox, q⟩
/-- how its arguments bind (no defaults): h is «fun _ _ _ _ _ _ us hl => match us, hl with | [_, _], _ => rfl», one _ a parameter -/
theorem Fun.binds {x qual : Str} {st : Stmt} {f : Addr} {fd : FuncData} {ps : List Str} (F : Fun K x qual st f fd)
    (h : ∀ (kV doc pm : Value) (an : Option Addr) (cdv ct : Value) (us : List Value), us.length = ps.length → bindArgs (PySem.W.fnOf x qual (defArgs st) (defBody st) (defScope st) .none kV doc pm an cdv ct) ⟨us, []⟩ = pure (ps.zip us)) : Binds K fd ps [] := by
  obtain ⟨oc, od, kV, doc, pm, an, cdv, ct, osl, rfl, lk, hcd⟩ := F.ex
  exact .all (h kV doc pm an cdv ct)
theorem fun_mk {x qual : Str} {st : Stmt} {f : Addr} {oc : Value} {od an : Option Addr} {osl : Array (Option Value)} {kV doc pm cdv ct : Value} (l : K.lookup f = some ⟨oc, od, .func (PySem.W.fnOf x qual (defArgs st) (defBody st) (defScope st) .none kV doc pm an cdv ct), osl⟩)
    (c : PySem.W.codeIn K cdv qual = true) (k : PySem.W.keepIn K (.ref f) = true) : Fun K x qual st f (PySem.W.fnOf x qual (defArgs st) (defBody st) (defScope st) .none kV doc pm an cdv ct) := ⟨⟨oc, od, kV, doc, pm, an, cdv, ct, osl, rfl, l, c⟩, k⟩
end
theorem hu_of {A : Around} {k : Nat} (hr : Room k A) : A.units + 1 < cLine := Nat.lt_of_le_of_lt (Nat.add_le_add_left (by decide : 1 ≤ 64) _) hr.units

/-! ### expressions in short: the name that stands in the i-th slot -/
section
variable {X : Cx}
theorem pv (i : Nat) {x : Str} {pos : Pos} (hN : X.N[i]? = some x := by rfl) (hv : Vis X.env.scope x := by first | exact Or.inl rfl | exact Or.inr (Or.inl rfl) | exact Or.inr (Or.inr rfl)) (hd : (x == ("__debug__" : Str)) = false := by decide)
    (hcd : (x == ("__classdict__" : Str)) = false := by decide) : PE X (.Name x pos) (tVar i) := pe_var hN hv hd hcd
end

/-! ### tests -/
theorem iteF {A B : Prop} (h : B) : if false = true then A else B := by
  rw [if_neg Bool.false_ne_true]
  exact h
theorem iteT {A B : Prop} (h : A) : if true = true then A else B := by
  rw [if_pos rfl]
  exact h
theorem ite2 {c A B : Prop} [Decidable c] (h1 : c → A) (h2 : ¬ c → B) : if c then A else B := by
  by_cases h : c
  · rw [if_pos h]
    exact h1 h
  · rw [if_neg h]
    exact h2 h
theorem iteNS {c A B : Prop} [Decidable c] (hc : c) (h : B) : if (!decide c) = true then A else B := by
  rw [decide_eq_true hc]
  exact iteF h

/-! ### heaps -/
/-- all that was tracked is as it was -/
def Same (H H' : Hp) : Prop := ∀ b o, H b = some o → H' b = some o
theorem Same.refl (H : Hp) : Same H H := fun _ _ h => h
theorem Same.trans {H H1 H2 : Hp} (a : Same H H1) (b : Same H1 H2) : Same H H2 := fun c o h => b c o (a c o h)
theorem Same.free {H H' : Hp} (e : Same H H') {l : Addr} (h : H' l = Option.none) : H l = Option.none := by
  cases q : H l with
  | none => rfl
  | some o =>
    rw [e l o q] at h
    cases h
theorem Same.seq {K : PySem.W.Frag} {H H' : Hp} {a : Addr} {xs : List V} (e : Same H H') (h : SqL K H a xs) : SqL K H' a xs := by
  rcases h with (h | ⟨o, h⟩) | h
  · exact .inl (.inl (e _ _ h))
  · exact .inl (.inr ⟨o, e _ _ h⟩)
  · exact .inr h

/-! ### a dict's pairs: keys that differ -/
section
variable {κ : Type} [DecidableEq κ]
end
/-! ### lists -/
theorem at_of {xs : List V} {z : Int} {j : Nat} {v : V} (e : z = (j : Int)) (h : xs[j]? = some v) : atI xs z = some v := by
  rw [e]
  exact atI_nat h
/-- a new instance and its __init__ leave all that was tracked as it was -/
theorem Same.made {H H1 : Hp} {x dx C : Addr} (nx : H x = Option.none) (nd : H dx = Option.none) (k : ∀ b o, (upd (upd H dx (.own x)) x (.ins C dx [])) b = some o → b ≠ x → H1 b = some o) : Same H H1 := fun b o e =>
  k b o (by rw [upd_ne (ne_of_none e nx), upd_ne (ne_of_none e nd)]; exact e) (ne_of_none e nx)
end L2

set_option maxHeartbeats 2000000
namespace L2
open PySem PySem.Spec PyProof.Rows
open PySem.W (WData Codec OpenSpec Well WellAll ReadsW ReadsAllW)
/-! ### an answer as data -/
mutual
/-- x stands for the datum d, lists and tuples all the way -/
inductive Dw (K : PySem.W.Frag) (H : Hp) : V → WData → Prop
  | non : Dw K H .non .none
  | bl (b : Bool) : Dw K H (.bl b) (.bool b)
  | int (i : Int) : Dw K H (.int i) (.int i)
  | str (x : Str) : Dw K H (.str x) (.str x)
  | byt (b : Array UInt8) : Dw K H (.byt b) (.bytes b.toList)
  | lst {a : Addr} {xs : List V} {ds : List WData} : SqL K H a xs → DwAll K H xs ds → Dw K H (.ref a) (.list ds)
  | tup {a : Addr} {xs : List V} {ds : List WData} : SqT K H a xs → DwAll K H xs ds → Dw K H (.ref a) (.tuple ds)
inductive DwAll (K : PySem.W.Frag) (H : Hp) : List V → List WData → Prop
  | nil : DwAll K H [] []
  | cons {v : V} {vs : List V} {d : WData} {ds : List WData} : Dw K H v d → DwAll K H vs ds → DwAll K H (v :: vs) (d :: ds)
end
theorem dw_ints {K : PySem.W.Frag} {H : Hp} : ∀ ns : List Int, DwAll K H (ns.map V.int) (ns.map WData.int)
  | [] => .nil
  | n :: r => .cons (.int n) (dw_ints r)
theorem ints_dw {K : PySem.W.Frag} {H : Hp} : ∀ (ns : List Int) (xs : List V), DwAll K H xs (ns.map WData.int) → xs = ns.map V.int
  | [], xs, h => by
    cases h
    rfl
  | n :: r, xs, h => by
    cases h with
    | cons h1 h2 =>
      cases h1
      rw [ints_dw r _ h2] <;> rfl
section
variable {P : Program} {w : World} {K : PySem.W.Frag} {H : Hp} {h : Heap} {R : PySem.W.WRecords} {cl : Str → Option Addr}
theorem sqL_at {a : Addr} {xs : List V} (hok : HOk P w H h) (KX : K.In h) (q : SqL K H a xs) : ∃ (its : List Value) (o : Obj) (n : Nat), Vals xs its ∧ h.get? a = some o ∧ o.cls = .type "list" ∧ o.data = .seq its.toArray n := by
  rcases q with q | ⟨o, its, n, e, hc, _, hd, _, hv⟩
  · obtain ⟨_, its, n, hv, e⟩ := (show ObjOk P w H h a (.lst xs) from q.ok hok)
    exact ⟨its, _, n, hv, e, rfl, rfl⟩
  · exact ⟨its.toList, o, n, hv, KX _ _ e, hc, by simp [hd]⟩
theorem sqT_at {a : Addr} {xs : List V} (hok : HOk P w H h) (KX : K.In h) (q : SqT K H a xs) : ∃ (its : List Value) (o : Obj) (n : Nat), Vals xs its ∧ h.get? a = some o ∧ o.cls = .type "tuple" ∧ o.data = .seq its.toArray n := by
  rcases q with q | ⟨o, its, n, e, hc, hd, _, hv⟩
  · obtain ⟨_, its, hv, o, e, hc, n, hd⟩ := (show ObjOk P w H h a (.tup xs) from q.ok hok)
    exact ⟨its, o, n, hv, e, hc, hd⟩
  · exact ⟨its.toList, o, n, hv, KX _ _ e, hc, by simp [hd]⟩
mutual
theorem Dw.reads (hok : HOk P w H h) (KX : K.In h) : ∀ (d : WData) (v : V) (u : Value), Dw K H v d → RelV v u → ∃ as, ReadsW R cl h u d as
  | .none, _, _, x, r => by
    cases x
    cases r
    exact ⟨_, ReadsW.none⟩
  | .bool b, _, _, x, r => by
    cases x
    cases r
    exact ⟨_, ReadsW.bool b⟩
  | .int i, _, _, x, r => by
    cases x
    obtain ⟨t, rfl⟩ := r
    exact ⟨_, ReadsW.int i t⟩
  | .str s, _, _, x, r => by
    cases x
    obtain ⟨t, rfl⟩ := r
    exact ⟨_, ReadsW.str s t⟩
  | .bytes b, _, _, x, r => by
    cases x
    obtain ⟨t, rfl⟩ := r
    exact ⟨_, ReadsW.bytes _ t⟩
  | .list ds, _, _, x, r => by
    cases x with
    | lst hs ha =>
      cases r
      obtain ⟨its, o, n, rv, ho, hc, hd⟩ := sqL_at hok KX hs
      obtain ⟨as, hr⟩ := Dw.readsAll hok KX ds _ its ha rv
      exact ⟨_, ReadsW.list ho hc hd hr⟩
  | .tuple ds, _, _, x, r => by
    cases x with
    | tup hs ha =>
      cases r
      obtain ⟨its, o, n, rv, ho, hc, hd⟩ := sqT_at hok KX hs
      obtain ⟨as, hr⟩ := Dw.readsAll hok KX ds _ its ha rv
      exact ⟨_, ReadsW.tuple ho hc hd hr⟩
  | .float _, _, _, x, _ => by cases x
  | .dict _, _, _, x, _ => by cases x
  | .bytearray _, _, _, x, _ => by cases x
  | .set _, _, _, x, _ => by cases x
  | .frozenset _, _, _, x, _ => by cases x
  | .obj _ _, _, _, x, _ => by cases x
theorem Dw.readsAll (hok : HOk P w H h) (KX : K.In h) : ∀ (ds : List WData) (vs : List V) (us : List Value), DwAll K H vs ds → Vals vs us → ∃ as, ReadsAllW R cl h us ds as
  | [], _, _, x, r => by
    cases x
    cases r
    exact ⟨_, ReadsAllW.nil⟩
  | d :: ds, _, _, x, r => by
    cases x with
    | cons h1 h2 =>
      cases r with
      | cons r1 r2 =>
        obtain ⟨as, q1⟩ := Dw.reads hok KX d _ _ h1 r1
        obtain ⟨bs, q2⟩ := Dw.readsAll hok KX ds _ _ h2 r2
        exact ⟨_, ReadsAllW.cons q1 q2⟩
end
end
/-! ### the arguments -/
mutual
/-- data that a codec tells -/
def plW : WData → Bool
  | .none => true
  | .bool _ => true
  | .int _ => true
  | .str _ => true
  | .bytes _ => true
  | .list xs => plWs xs
  | .tuple xs => plWs xs
  | _ => false
def plWs : List WData → Bool
  | [] => true
  | x :: r => plW x && plWs r
end
theorem plWs_map {α : Type} {f : α → WData} (h : ∀ a, plW (f a) = true) : ∀ l : List α, plWs (l.map f) = true
  | [] => rfl
  | x :: r => by
    show (plW (f x) && plWs (r.map f)) = true
    rw [h x, plWs_map h r] <;> rfl
theorem pl_enc : ∀ (c : Codec) (a : c.denote), plW (c.enc a) = true
  | .unit, _ => rfl
  | .bool, _ => rfl
  | .int _ _, _ => rfl
  | .nat _ _, _ => rfl
  | .u8, _ => rfl
  | .bytes _ _, _ => rfl
  | .text _ _ _ _, _ => rfl
  | .list _ _ c, a => plWs_map (fun x => pl_enc c x) a
  | .pair c d, a => by
    show (plW (c.enc a.1) && (plW (d.enc a.2) && true)) = true
    rw [pl_enc c a.1, pl_enc d a.2] <;> rfl
  | .triple c d e, a => by
    show (plW (c.enc a.1) && (plW (d.enc a.2.1) && (plW (e.enc a.2.2) && true))) = true
    rw [pl_enc c a.1, pl_enc d a.2.1, pl_enc e a.2.2] <;> rfl
  | .option c, none => rfl
  | .option c, some x => pl_enc c x
theorem pl_encAll : ∀ (cs : List Codec) (a : Codec.denoteAll cs), plWs (Codec.encAll cs a) = true
  | [], _ => rfl
  | c :: cs, a => by
    show (plW (c.enc a.1) && plWs (Codec.encAll cs a.2)) = true
    rw [pl_enc c a.1, pl_encAll cs a.2] <;> rfl
theorem weight_mem : ∀ {xs : List WData} {d : WData}, d ∈ xs → d.weight ≤ WData.weightAll xs
  | [], d, h => absurd h (by simp)
  | x :: r, d, h => by
    show d.weight ≤ x.weight + 1 + WData.weightAll r
    rcases List.mem_cons.mp h with e | m
    · rw [e]
      omega
    · have z := weight_mem m
      omega
def toV : Value → V
  | .none => .non
  | .bool b => .bl b
  | .int i _ => .int i
  | .str x _ => .str x
  | .bytes b _ => .byt b
  | .ref a => .ref a
  | _ => .non
/-- a value of the arguments, its objects among A -/
def OkU (A : List Addr) : Value → Prop
  | .none => True
  | .bool _ => True
  | .int _ _ => True
  | .str _ _ => True
  | .bytes _ _ => True
  | .ref a => a ∈ A
  | _ => False
theorem OkU.mono {A B : List Addr} (h : ∀ a ∈ A, a ∈ B) : ∀ {u : Value}, OkU A u → OkU B u := fun {u} x => by
  cases u with
  | ref a => exact h a x
  | none => trivial
  | bool b => trivial
  | int i t => trivial
  | str s t => trivial
  | bytes b t => trivial
  | _ => exact False.elim x
theorem relV_toV {A : List Addr} {u : Value} (x : OkU A u) : RelV (toV u) u := by
  cases u with
  | ref a => rfl
  | none => rfl
  | bool b => rfl
  | int i t => exact ⟨t, rfl⟩
  | str s t => exact ⟨t, rfl⟩
  | bytes b t => exact ⟨t, rfl⟩
  | _ => exact False.elim x
theorem vals_toV {A : List Addr} : ∀ {vs : List Value}, (∀ u ∈ vs, OkU A u) → Vals (vs.map toV) vs
  | [], _ => .nil
  | u :: r, h => .cons (relV_toV (h u (List.mem_cons_self ..))) (vals_toV fun x hx => h x (List.mem_cons_of_mem _ hx))
/-- an object of the arguments -/
def ArgOb (h : Heap) (A : List Addr) (a : Addr) : Prop := ∃ vs : List Value, vs.length ≤ sizeLine ∧ (∀ u ∈ vs, OkU A u) ∧
  (h.get? a = some { cls := .type "list", data := .seq vs.toArray } ∨ h.get? a = some { cls := .type "tuple", data := .seq vs.toArray })
theorem ArgOb.mono {h : Heap} {A B : List Addr} {a : Addr} (k : ∀ a ∈ A, a ∈ B) (x : ArgOb h A a) : ArgOb h B a := by
  obtain ⟨vs, h1, h2, h3⟩ := x
  exact ⟨vs, h1, fun u hu => (h2 u hu).mono k, h3⟩
theorem wellAll_len {P : Params} {h : Heap} : ∀ {vs : List Value} {ds : List WData}, WellAll P h vs ds → vs.length = ds.length
  | _, _, .nil => rfl
  | _, _, .cons _ b => by
    show _ + 1 = _ + 1
    rw [wellAll_len b]
theorem well_list {P : Params} {h : Heap} {v : Value} {ds : List WData} (x : Well P h v (.list ds)) : ∃ (a : Addr) (vs : List Value), v = .ref a ∧ h.get? a = some { cls := .type "list", data := .seq vs.toArray } ∧ WellAll P h vs ds := by
  cases x with
  | list ho hall => exact ⟨_, _, rfl, ho, hall⟩
theorem well_tuple {P : Params} {h : Heap} {v : Value} {ds : List WData} (x : Well P h v (.tuple ds)) : ∃ (a : Addr) (vs : List Value), v = .ref a ∧ h.get? a = some { cls := .type "tuple", data := .seq vs.toArray } ∧ WellAll P h vs ds := by
  cases x with
  | tuple ho hall => exact ⟨_, _, rfl, ho, hall⟩
theorem well_cons {P : Params} {h : Heap} {us : List Value} {d : WData} {ds : List WData} (x : WellAll P h us (d :: ds)) : ∃ (v : Value) (vs : List Value), us = v :: vs ∧ Well P h v d ∧ WellAll P h vs ds := by
  cases x with
  | cons a b => exact ⟨_, _, rfl, a, b⟩
theorem line_of {n : Nat} (h : n ≤ 1048576) : n ≤ sizeLine := Nat.le_trans h (by decide)
section
variable {P : Params} {h : Heap}
mutual
theorem area_one : ∀ (d : WData) (v : Value), Well P h v d → plW d = true → d.weight ≤ 1048576 → ∃ A : List Addr, OkU A v ∧ ∀ a ∈ A, ArgOb h A a
  | .none, _, x, _, _ => by
    cases x
    exact ⟨[], trivial, fun a m => absurd m (by simp)⟩
  | .bool b, _, x, _, _ => by
    cases x
    exact ⟨[], trivial, fun a m => absurd m (by simp)⟩
  | .int i, _, x, _, _ => by
    cases x
    exact ⟨[], trivial, fun a m => absurd m (by simp)⟩
  | .str s, _, x, _, _ => by
    cases x
    exact ⟨[], trivial, fun a m => absurd m (by simp)⟩
  | .bytes b, _, x, _, _ => by
    cases x
    exact ⟨[], trivial, fun a m => absurd m (by simp)⟩
  | .list ds, _, x, p, z => by
    obtain ⟨a, vs, rfl, ho, hall⟩ := well_list x
    have z2 : WData.weightAll ds ≤ 1048576 := z
    obtain ⟨A, h1, h2⟩ := area_all ds _ hall p fun d hd => Nat.le_trans (weight_mem hd) z2
    have k : ∀ b ∈ A, b ∈ a :: A := fun b hb => List.mem_cons_of_mem _ hb
    refine ⟨a :: A, List.mem_cons_self .., fun b hb => ?_⟩
    rcases List.mem_cons.mp hb with e | m
    · rw [e]
      exact ⟨vs, line_of (by rw [wellAll_len hall]; exact Nat.le_trans (PySem.W.length_le_weightAllW ds) z2), fun u hu => (h1 u hu).mono k, .inl ho⟩
    · exact (h2 b m).mono k
  | .tuple ds, _, x, p, z => by
    obtain ⟨a, vs, rfl, ho, hall⟩ := well_tuple x
    have z2 : WData.weightAll ds ≤ 1048576 := z
    obtain ⟨A, h1, h2⟩ := area_all ds _ hall p fun d hd => Nat.le_trans (weight_mem hd) z2
    have k : ∀ b ∈ A, b ∈ a :: A := fun b hb => List.mem_cons_of_mem _ hb
    refine ⟨a :: A, List.mem_cons_self .., fun b hb => ?_⟩
    rcases List.mem_cons.mp hb with e | m
    · rw [e]
      exact ⟨vs, line_of (by rw [wellAll_len hall]; exact Nat.le_trans (PySem.W.length_le_weightAllW ds) z2), fun u hu => (h1 u hu).mono k, .inr ho⟩
    · exact (h2 b m).mono k
  | .float _, _, _, p, _ => Bool.noConfusion (show false = true from p)
  | .dict _, _, _, p, _ => Bool.noConfusion (show false = true from p)
  | .bytearray _, _, _, p, _ => Bool.noConfusion (show false = true from p)
  | .set _, _, _, p, _ => Bool.noConfusion (show false = true from p)
  | .frozenset _, _, _, p, _ => Bool.noConfusion (show false = true from p)
  | .obj _ _, _, _, p, _ => Bool.noConfusion (show false = true from p)
theorem area_all : ∀ (ds : List WData) (vs : List Value), WellAll P h vs ds → plWs ds = true → (∀ d ∈ ds, d.weight ≤ 1048576) → ∃ A : List Addr, (∀ u ∈ vs, OkU A u) ∧ ∀ a ∈ A, ArgOb h A a
  | [], _, x, _, _ => by
    cases x
    exact ⟨[], fun u m => absurd m (by simp), fun a m => absurd m (by simp)⟩
  | d :: ds, _, x, p, z => by
    obtain ⟨v, vs, rfl, x1, x2⟩ := well_cons x
    have q : plW d = true ∧ plWs ds = true := Bool.and_eq_true_iff.mp p
    obtain ⟨A, a1, a2⟩ := area_one d v x1 q.1 (z d (List.mem_cons_self ..))
    obtain ⟨B, b1, b2⟩ := area_all ds vs x2 q.2 fun e he => z e (List.mem_cons_of_mem _ he)
    have kA : ∀ b ∈ A, b ∈ A ++ B := fun b hb => List.mem_append.mpr (.inl hb)
    have kB : ∀ b ∈ B, b ∈ A ++ B := fun b hb => List.mem_append.mpr (.inr hb)
    refine ⟨A ++ B, fun u hu => ?_, fun b hb => ?_⟩
    · rcases List.mem_cons.mp hu with e | m
      · rw [e]
        exact a1.mono kA
      · exact (b1 u m).mono kB
    · rcases List.mem_append.mp hb with m | m
      · exact (a2 b m).mono kA
      · exact (b2 b m).mono kB
end
end
/-- what is tracked of an argument's object -/
def hoOf (o : Obj) : Option HO := match o.data with
  | .seq vs _ => if (o.cls == Value.type "list") = true then some (.frz o (.lst (vs.toList.map toV))) else some (.frz o (.tup (vs.toList.map toV)))
  | _ => none
def argH (K : PySem.W.Frag) (h : Heap) (A : List Addr) : Hp := fun b => if b ∈ A then (if (K.lookup b).isNone = true then (h.get? b).bind hoOf else none) else none
/-- nothing is tracked but what is known to the object -/
def OnlyF (H : Hp) : Prop := ∀ b, H b = none ∨ ∃ o u, H b = some (.frz o u)
theorem hoOf_lst (vs : List Value) : hoOf { cls := .type "list", data := .seq vs.toArray } = some (.frz { cls := .type "list", data := .seq vs.toArray } (.lst (vs.map toV))) := by
  show (if (Value.type "list" == Value.type "list") = true then some (HO.frz { cls := .type "list", data := .seq vs.toArray } (.lst (vs.toArray.toList.map toV))) else some (HO.frz { cls := .type "list", data := .seq vs.toArray } (.tup (vs.toArray.toList.map toV)))) = _
  rw [if_pos (beq_self_eq_true _)]
theorem hoOf_tup (vs : List Value) : hoOf { cls := .type "tuple", data := .seq vs.toArray } = some (.frz { cls := .type "tuple", data := .seq vs.toArray } (.tup (vs.map toV))) := by
  show (if (Value.type "tuple" == Value.type "list") = true then some (HO.frz { cls := .type "tuple", data := .seq vs.toArray } (.lst (vs.toArray.toList.map toV))) else some (HO.frz { cls := .type "tuple", data := .seq vs.toArray } (.tup (vs.toArray.toList.map toV)))) = _
  rw [if_neg (by decide)]
section
variable {P : Program} {w : World} {K : PySem.W.Frag} {h : Heap} {A : List Addr}
theorem argH_at {b : Addr} {o : Obj} (hb : b ∈ A) (hk : K.lookup b = none) (e : h.get? b = some o) : argH K h A b = hoOf o := by
  unfold argH
  rw [if_pos hb, hk, if_pos (show (none : Option Obj).isNone = true from rfl), e] <;> rfl
theorem of_argH {b : Addr} {u : HO} (q : argH K h A b = some u) : b ∈ A ∧ K.lookup b = none := by
  unfold argH at q
  by_cases hb : b ∈ A
  · rw [if_pos hb] at q
    cases hk : K.lookup b with
    | none => exact ⟨hb, rfl⟩
    | some o =>
      rw [hk, if_neg (by simp)] at q
      cases q
  · rw [if_neg hb] at q
    cases q
/-- what stands tracked -/
theorem argH_is (ar : ∀ a ∈ A, ArgOb h A a) {b : Addr} {u : HO} (q : argH K h A b = some u) : K.lookup b = none ∧ ∃ vs : List Value, vs.length ≤ sizeLine ∧ (∀ u ∈ vs, OkU A u) ∧
    ((h.get? b = some { cls := .type "list", data := .seq vs.toArray } ∧ u = .frz { cls := .type "list", data := .seq vs.toArray } (.lst (vs.map toV))) ∨
     (h.get? b = some { cls := .type "tuple", data := .seq vs.toArray } ∧ u = .frz { cls := .type "tuple", data := .seq vs.toArray } (.tup (vs.map toV)))) := by
  obtain ⟨hb, hk⟩ := of_argH q
  obtain ⟨vs, h1, h2, h3⟩ := ar b hb
  refine ⟨hk, vs, h1, h2, ?_⟩
  rcases h3 with e | e
  · rw [argH_at hb hk e, hoOf_lst] at q
    exact .inl ⟨e, (Option.some.inj q).symm⟩
  · rw [argH_at hb hk e, hoOf_tup] at q
    exact .inr ⟨e, (Option.some.inj q).symm⟩
theorem argH_only (ar : ∀ a ∈ A, ArgOb h A a) : OnlyF (argH K h A) := fun b => by
  cases q : argH K h A b with
  | none => exact .inl rfl
  | some u =>
    obtain ⟨_, vs, _, _, ⟨_, e⟩ | ⟨_, e⟩⟩ := argH_is ar q
    · exact .inr ⟨_, _, by rw [e]⟩
    · exact .inr ⟨_, _, by rw [e]⟩
theorem argH_ok (ar : ∀ a ∈ A, ArgOb h A a) : HOk P w (argH K h A) h := fun b u q => by
  obtain ⟨_, vs, h1, h2, ⟨e, rfl⟩ | ⟨e, rfl⟩⟩ := argH_is ar q
  · exact ⟨e, by rw [List.length_map]; exact h1, vs, _, vals_toV h2, e⟩
  · exact ⟨e, by rw [List.length_map]; exact h1, vs, vals_toV h2, _, e, rfl, _, rfl⟩
theorem seq_inj {c c' : Value} {vs us : List Value} (e : (some { cls := c, data := .seq vs.toArray } : Option Obj) = some { cls := c', data := .seq us.toArray }) : c = c' ∧ vs = us := by
  have e1 := Option.some.inj e
  have e2 : c = c' := congrArg Obj.cls e1
  have e3 : Data.seq vs.toArray = Data.seq us.toArray := congrArg Obj.data e1
  injection e3 with e4
  refine ⟨e2, ?_⟩
  have e5 := congrArg Array.toList e4
  simpa using e5
/-- a list argument -/
theorem argL (KX : K.In h) (ar : ∀ a ∈ A, ArgOb h A a) {a : Addr} {vs : List Value} (ha : a ∈ A) (e : h.get? a = some { cls := .type "list", data := .seq vs.toArray }) : (∀ u ∈ vs, OkU A u) ∧ SqL K (argH K h A) a (vs.map toV) := by
  obtain ⟨us, h1, h2, h3⟩ := ar a ha
  have hu : us = vs := by
    rcases h3 with q | q
    · rw [e] at q
      exact (seq_inj q).2.symm
    · rw [e] at q
      exact absurd (Value.type.inj (seq_inj q).1) (by decide)
  subst hu
  refine ⟨h2, ?_⟩
  cases hk : K.lookup a with
  | none => exact .inl (.inr ⟨_, by rw [argH_at ha hk e, hoOf_lst]⟩)
  | some o =>
    have e2 := KX a o hk
    rw [e] at e2
    obtain rfl := Option.some.inj e2
    exact .inr ⟨_, us.toArray, _, hk, rfl, rfl, rfl, by rw [List.size_toArray]; exact h1, by simpa using vals_toV h2⟩
theorem argT (KX : K.In h) (ar : ∀ a ∈ A, ArgOb h A a) {a : Addr} {vs : List Value} (ha : a ∈ A) (e : h.get? a = some { cls := .type "tuple", data := .seq vs.toArray }) : (∀ u ∈ vs, OkU A u) ∧ SqT K (argH K h A) a (vs.map toV) := by
  obtain ⟨us, h1, h2, h3⟩ := ar a ha
  have hu : us = vs := by
    rcases h3 with q | q
    · rw [e] at q
      exact absurd (Value.type.inj (seq_inj q).1) (by decide)
    · rw [e] at q
      exact (seq_inj q).2.symm
  subst hu
  refine ⟨h2, ?_⟩
  cases hk : K.lookup a with
  | none => exact .inl (.inr ⟨_, by rw [argH_at ha hk e, hoOf_tup]⟩)
  | some o =>
    have e2 := KX a o hk
    rw [e] at e2
    obtain rfl := Option.some.inj e2
    exact .inr ⟨_, us.toArray, _, hk, rfl, rfl, by rw [List.size_toArray]; exact h1, by simpa using vals_toV h2⟩
mutual
theorem dw_one {Pm : Params} (KX : K.In h) (ar : ∀ a ∈ A, ArgOb h A a) : ∀ (d : WData) (v : Value), Well Pm h v d → plW d = true → OkU A v → Dw K (argH K h A) (toV v) d
  | .none, _, x, _, _ => by
    cases x
    exact .non
  | .bool b, _, x, _, _ => by
    cases x
    exact .bl b
  | .int i, _, x, _, _ => by
    cases x
    exact .int i
  | .str s, _, x, _, _ => by
    cases x
    exact .str s
  | .bytes b, _, x, _, _ => by
    cases x
    have z := Dw.byt (K := K) (H := argH K h A) b.toArray
    exact z
  | .list ds, _, x, p, hu => by
    obtain ⟨a, vs, rfl, ho, hall⟩ := well_list x
    obtain ⟨h2, hs⟩ := argL KX ar hu ho
    exact .lst hs (dw_all KX ar ds _ hall p h2)
  | .tuple ds, _, x, p, hu => by
    obtain ⟨a, vs, rfl, ho, hall⟩ := well_tuple x
    obtain ⟨h2, hs⟩ := argT KX ar hu ho
    exact .tup hs (dw_all KX ar ds _ hall p h2)
  | .float _, _, _, p, _ => Bool.noConfusion (show false = true from p)
  | .dict _, _, _, p, _ => Bool.noConfusion (show false = true from p)
  | .bytearray _, _, _, p, _ => Bool.noConfusion (show false = true from p)
  | .set _, _, _, p, _ => Bool.noConfusion (show false = true from p)
  | .frozenset _, _, _, p, _ => Bool.noConfusion (show false = true from p)
  | .obj _ _, _, _, p, _ => Bool.noConfusion (show false = true from p)
theorem dw_all {Pm : Params} (KX : K.In h) (ar : ∀ a ∈ A, ArgOb h A a) : ∀ (ds : List WData) (vs : List Value), WellAll Pm h vs ds → plWs ds = true → (∀ u ∈ vs, OkU A u) → DwAll K (argH K h A) (vs.map toV) ds
  | [], _, x, _, _ => by
    cases x
    exact .nil
  | d :: ds, _, x, p, hu => by
    obtain ⟨v, vs, rfl, x1, x2⟩ := well_cons x
    have q : plW d = true ∧ plWs ds = true := Bool.and_eq_true_iff.mp p
    exact .cons (dw_one KX ar d v x1 q.1 (hu _ (List.mem_cons_self ..))) (dw_all KX ar ds vs x2 q.2 fun u m => hu u (List.mem_cons_of_mem _ m))
end
end
/-! ### the call -/
theorem spec_call {P : Program} {w : World} {K : PySem.W.Frag} {mg mb : Str → Option Value} {CX : CXT} {k : Nat} {fa : Addr} {fd : FuncData} {ps : List Str} {sp : Sp} {s₁ : Shared} {vals : List Value} {ds : List WData} {R : PySem.W.WRecords} {cl : Str → Option Addr} {d0 : WData}
    (KX : K.In s₁.heap) (hns : s₁.heap.Ns mainGlobals mg) (hb : s₁.heap.Ns builtinsNs mb) (hbb : ∀ x : Str, x ≠ "__name__" → mb x = bootBuiltins x) (hlim : s₁.heap.NoLimit) (hg : s₁.gens = #[])
    (hwl : WellAll w.params s₁.heap vals ds) (hpl : plWs ds = true) (hwt : ∀ d ∈ ds, d.weight ≤ 1048576) (hr : Room k callerA)
    (F : ∀ base : Heap, K.In base → base.Ns mainGlobals mg → FnOk P w K mg base CX k fa fd ps sp) (hbind : ∀ (s : Shared) (us : List Value), us.length = ps.length → BindsTo s fd ⟨us, []⟩ (ps.zip us)) (hlen : ds.length = ps.length)
    (hsp : ∀ (H : Hp) (xs : List V), OnlyF H → DwAll K H xs ds → sp xs H (fun v H' => Dw K H' v d0) fun _ _ _ => False)
    (hCX : ∀ H e s', CX [] H s₁ (fun _ _ _ => False) e s' → False) :
    codeAny (model P w) callerA (.call (.ref fa) ⟨vals, []⟩) (fun r s' => ∃ u as, r = .ok (.ret u) ∧ ReadsW R cl s'.heap u d0 as ∧ OldK s₁.heap s'.heap ∧ s'.os = s₁.os ∧ AllBare s'.gens) s₁ := by
  obtain ⟨A, ho, ar⟩ := area_all ds vals hwl hpl hwt
  have hO : OnlyF (argH K s₁.heap A) := argH_only ar
  have hok : HOk P w (argH K s₁.heap A) s₁.heap := argH_ok ar
  have hS := dw_all KX ar ds vals hwl hpl ho
  have hV := vals_toV ho
  have hK : ∀ b u, argH K s₁.heap A b = some u → K.lookup b = none := fun b u q => (argH_is ar q).1
  have noA : ∀ {b : Addr} {o : Obj} {es : Array DictEntry} {ep : Nat}, s₁.heap.get? b = some o → o.data = .dict es ep → argH K s₁.heap A b = none := fun {b o es ep} e d => by
    cases q : argH K s₁.heap A b with
    | none => rfl
    | some u =>
      obtain ⟨_, vs, _, _, ⟨e2, _⟩ | ⟨e2, _⟩⟩ := argH_is ar q
      · rw [e2] at e
        cases e
        have d' : Data.seq vs.toArray _ = Data.dict es ep := d
        cases d'
      · rw [e2] at e
        cases e
        have d' : Data.seq vs.toArray _ = Data.dict es ep := d
        cases d'
  generalize argH K s₁.heap A = H at hO hok hS hK noA
  have base_of : ∀ {b : Addr} {o : Obj}, s₁.heap.get? b = some o → H b = none → (hidT s₁.heap H).get? b = some o := fun e n => hidT_get e n
  have nsK : ∀ {b : Addr} {m : Str → Option Value}, s₁.heap.Ns b m → (hidT s₁.heap H).Ns b m := fun {b m} ⟨o, es, ep, e, d, r⟩ => ⟨o, es, ep, base_of e (noA e d), d, r⟩
  have nK : ∀ b o, K.lookup b = some o → H b = none := fun b o e => by
    cases q : H b with
    | none => rfl
    | some u =>
      rw [hK b u q] at e
      cases e
  have hKb : K.In (hidT s₁.heap H) := fun b o e => base_of (KX b o e) (nK b o e)
  have hM : Mod K mg (hidT s₁.heap H) := ⟨hKb, nsK hns, ⟨mb, nsK hb, hbb⟩, let ⟨mc, h1, h2⟩ := hlim; ⟨mc, nsK h1, h2⟩⟩
  have e0 : Env0 P w K mg (hidT s₁.heap H) callerA [] s₁ H := ⟨rfl, hM, fun b o e => of_hidT e, Nat.le_of_eq (hidT_size _ _), trivial, fun b hb => absurd (show b ∈ ([] : List Addr) from hb) (by simp), hok, .of_eq hg⟩
  have hl : vals.length = ps.length := by rw [wellAll_len hwl]; exact hlen
  refine codeAny_mono ((F _ hKb (nsK hns)).run callerA [] s₁ H ⟨vals, []⟩ vals (vals.map toV) _ _ hr e0 (hbind s₁ vals hl) hV (hsp H _ hO hS)) fun r s' x => ?_
  cases r with
  | error e => exact (hCX H e s' x).elim
  | ok fl =>
    cases fl with
    | next => exact False.elim x
    | brk => exact False.elim x
    | cont => exact False.elim x
    | ret u =>
      obtain ⟨v, H', os, bare, un, hok', r', q⟩ := x
      have kept : ∀ b o, s₁.heap.get? b = some o → s'.heap.get? b = some o := fun b o e => by
        cases q2 : H b with
        | none => exact un.keep b o e q2 (by intro z; exact absurd (show b ∈ ([] : List Addr) from z) (by simp)) (by simp)
        | some u2 =>
          rcases hO b with z | ⟨ob, u3, z⟩
          · rw [q2] at z
            cases z
          · have z2 := un.frzs b ob _ z
            obtain ⟨e1, _⟩ := hok b _ z
            obtain ⟨e2, _⟩ := hok' b _ z2
            rw [e] at e1
            cases e1
            exact e2
      have KX' : K.In s'.heap := fun b o e => kept b o (KX b o e)
      obtain ⟨as, hrd⟩ := Dw.reads (R := R) (cl := cl) hok' KX' d0 v u q r'
      exact ⟨u, as, rfl, hrd, OldK.of_keep kept, os, bare⟩
/-! ### the row -/
theorem layable_weight {ds : List WData} (h : WData.layableAll ds = true) : ∀ d ∈ ds, d.weight ≤ 1048576 := fun d hd =>
  (PySem.W.layableW_iff.mp (List.all_eq_true.mp h d hd)).2.2
theorem encAll_len : ∀ (cs : List Codec) (a : Codec.denoteAll cs), (Codec.encAll cs a).length = cs.length
  | [], _ => rfl
  | c :: cs, a => by
    show (Codec.encAll cs a.2).length + 1 = cs.length + 1
    rw [encAll_len cs a.2]
/-- the goal that k_headS leaves (case hc), from the promise of the row's def: whatever the arguments that the codecs let and the row asks for, the def gives what stands for enc (f ..) -/
theorem walk_spec {r : OpenSpec} {k : Nat} {q : Program} {loose : List Str} {XP : (Str → Option Value) → Heap → Prop} {YP : World → Heap → Prop} {d : DefRec} {K : Params → PySem.W.Frag} {CX : World → CXT} {ps : List Str} {sp : World → Sp}
    (hwell : r.wellSaid = true) (hdf : d.params.defaults = []) (hlen : r.args.length = ps.length) (hr : Room k callerA)
    (hY : ∀ (w : World) (h : Heap), YP w h → (K w.params).In h)
    (F : ∀ (w : World) (mg : Str → Option Value) (fa : Addr) (h : Heap), YP w h → (K w.params).In h → h.Ns mainGlobals mg → mg d.name = some (.ref fa) →
      ∃ fd : FuncData, (∀ (s : Shared) (us : List Value), us.length = ps.length → BindsTo s fd ⟨us, []⟩ (ps.zip us)) ∧
        ∀ base : Heap, (K w.params).In base → base.Ns mainGlobals mg → FnOk r.prog w (K w.params) mg base (CX w) k fa fd ps (sp w))
    (hsp : ∀ (w : World) (H : Hp) (xs : List V) (a : Codec.denoteAll r.args), OnlyF H → Codec.withinAll r.args a = true → Codec.app r.args r.asked a = true → DwAll (K w.params) H xs (Codec.encAll r.args a) →
      sp w xs H (fun v H' => Dw (K w.params) H' v (r.ret.enc (Codec.app r.args r.f a))) fun _ _ _ => False)
    (hCX : ∀ (w : World) (H : Hp) (s : Shared) (e : Value) (s' : Shared), CX w [] H s (fun _ _ _ => False) e s' → False) :
    PySem.W.WalkOS q loose XP YP r d [] (fun f vs => PySem.call f vs) := by
  intro w s_0 s₁ mg mb G Y fa o pm cd doc dV kV ho hd hcd hD hmg hg args vals as hpre hlay hrd hwl hlo
  obtain ⟨a, e1, e2⟩ := PySem.W.os_pre_some hpre
  obtain ⟨e3, hwi⟩ := Codec.encAll_of_decAll r.args args a e1
  subst e3
  have KX := hY w _ Y
  obtain ⟨fd, hb, hF⟩ := F w mg fa _ Y KX G.T.g hmg
  refine PySem.W.enter_call (codeAny_mono (spec_call (R := []) (cl := classAt s_0.heap) (d0 := r.ret.enc (Codec.app r.args r.f a)) KX G.T.g G.T.b G.T.builtins G.T.nolimit hg hwl (pl_encAll _ _) (layable_weight hlay) hr hF hb (by rw [encAll_len]; exact hlen)
    (fun H xs hO hS => hsp w H xs a hO hwi e2 hS) fun H e s' => hCX w H s₁ e s') fun r' s' hq => ?_)
  obtain ⟨u, as', rfl, h1, h2, h3, h4⟩ := hq
  exact ⟨.inl ⟨u, _, as', rfl, fun _ => rfl, h1, (OpenSpec.post_iff hwell hwi _ _).mpr rfl, fun z => Bool.noConfusion (show false = true from z)⟩, h2, h3, h4⟩
/-- the same where the promise hangs on the written part alone -/
theorem walk_specK {r : OpenSpec} {k : Nat} {q : Program} {loose : List Str} {XP : (Str → Option Value) → Heap → Prop} {YP : World → Heap → Prop} {d : DefRec} {K : Params → PySem.W.Frag} {CX : CXT} {ps : List Str} {sp : PySem.W.Frag → Sp}
    (hwell : r.wellSaid = true) (hdf : d.params.defaults = []) (hlen : r.args.length = ps.length) (hr : Room k callerA)
    (hY : ∀ (w : World) (h : Heap), YP w h → (K w.params).In h)
    (F : ∀ (w : World) (mg : Str → Option Value) (fa : Addr) (h : Heap), YP w h → (K w.params).In h → h.Ns mainGlobals mg → mg d.name = some (.ref fa) →
      ∃ fd : FuncData, (∀ (s : Shared) (us : List Value), us.length = ps.length → BindsTo s fd ⟨us, []⟩ (ps.zip us)) ∧
        ∀ base : Heap, (K w.params).In base → base.Ns mainGlobals mg → FnOk r.prog w (K w.params) mg base CX k fa fd ps (sp (K w.params)))
    (hsp : ∀ (K : PySem.W.Frag) (H : Hp) (xs : List V) (a : Codec.denoteAll r.args), OnlyF H → Codec.withinAll r.args a = true → Codec.app r.args r.asked a = true → DwAll K H xs (Codec.encAll r.args a) →
      sp K xs H (fun v H' => Dw K H' v (r.ret.enc (Codec.app r.args r.f a))) fun _ _ _ => False)
    (hCX : ∀ (H : Hp) (s : Shared) (e : Value) (s' : Shared), CX [] H s (fun _ _ _ => False) e s' → False) :
    PySem.W.WalkOS q loose XP YP r d [] (fun f vs => PySem.call f vs) :=
  walk_spec (K := K) (CX := fun _ => CX) (sp := fun w => sp (K w.params)) hwell hdf hlen hr hY F (fun w H xs a h1 h2 h3 h4 => hsp (K w.params) H xs a h1 h2 h3 h4) fun _ H s e s' => hCX H s e s'
end L2
namespace Tl
open Ux06 (worth leaves counts)
/-! ## The specification's table as a plain recursion -/
/-- how many sets of m of the leaves l have the sum s -/
def Wn : List Nat → Nat → Nat → Nat
  | [], m, s => if m = 0 ∧ s = 0 then 1 else 0
  | k :: l, m, s => Wn l m s + (if m = 0 ∨ s < worth k then 0 else Wn l (m - 1) (s - worth k))
theorem getD_range {α : Type} (f : Nat → α) (n j : Nat) (d : α) (h : j < n) : ((List.range n).map f).getD j d = f j := by
  simp [List.getD, h]
theorem getD_range_arr {α : Type} (f : Nat → α) (n j : Nat) (d : α) (h : j < n) : ((List.range n).map f).toArray.getD j d = f j := by
  simp [Array.getD, h]
theorem counts_len (m s : Nat) (l : List Nat) : (counts m s l).length = m + 1 := by
  cases l <;> simp [counts]
theorem counts_at (m s : Nat) : ∀ (l : List Nat) (j x : Nat), j ≤ m → x ≤ s → ((counts m s l).getD j #[]).getD x 0 = Wn l j x
  | [], j, x, hj, hx => by
    unfold counts
    rw [List.foldr_nil, getD_range _ _ _ _ (by omega)]
    unfold Wn
    by_cases h0 : j = 0
    · rw [if_pos h0]
      by_cases hx0 : x = 0
      · subst hx0; subst h0; rfl
      · rw [if_neg (by omega)]
        have : ¬ x < 1 := by omega
        simp [Array.getD, this]
    · rw [if_neg h0, if_neg (by omega)]
      simp [Array.getD]
  | k :: l, j, x, hj, hx => by
    have ih := counts_at m s l
    unfold counts at ih ⊢
    rw [List.foldr_cons, getD_range _ _ _ _ (by omega)]
    simp only []
    rw [getD_range_arr _ _ _ _ (by omega), ih j x hj hx]
    show _ = Wn l j x + (if j = 0 ∨ x < worth k then 0 else Wn l (j - 1) (x - worth k))
    by_cases h0 : j = 0
    · rw [if_pos h0, if_pos (Or.inl h0)]
      split <;> simp [Array.getD]
    · rw [if_neg h0]
      by_cases hk : x < worth k
      · rw [if_pos hk, if_pos (Or.inr hk)]
      · rw [if_neg hk, if_neg (by omega), ih (j - 1) (x - worth k) (by omega) (by omega)]
theorem ways_eq (l : List Nat) (m s : Nat) : Ux06.ways l m s = Wn l m s := by
  unfold Ux06.ways
  exact counts_at m s l m s (Nat.le_refl _) (Nat.le_refl _)
theorem total_eq (l : List Nat) : Ux06.total l = l.sum := by
  unfold Ux06.total
  have : ∀ (l : List Nat) (a : Nat), l.foldl (fun a b => a + b) a = a + l.sum := by
    intro l
    induction l with
    | nil => intro a; simp
    | cons x l ih => intro a; rw [List.foldl_cons, ih, List.sum_cons]; omega
  rw [this, Nat.zero_add]
theorem sum_eq (l : List Nat) : Ux06.sum l = (l.map worth).sum := total_eq _
theorem counts_eq (l : List Nat) (m s : Nat) : (counts m s l).map (fun a => a.getD s 0) = (List.range (m + 1)).map fun j => Wn l j s := by
  apply List.ext_getElem
  · simp [counts_len]
  · intro i h1 h2
    have hi : i < m + 1 := by simpa using h2
    have hc : i < (counts m s l).length := by rw [counts_len]; exact hi
    rw [List.getElem_map, List.getElem_map, List.getElem_range, ← counts_at m s l i s (by omega) (Nat.le_refl _)]
    simp [List.getD, hc]
theorem all_eq (l : List Nat) (s : Nat) : Ux06.all l s = ((List.range (l.length + 1)).map fun j => Wn l j s).sum := by
  unfold Ux06.all
  rw [counts_eq, total_eq]
theorem numbers_eq (l : List Nat) (s : Nat) : Ux06.numbers l s = (List.range (l.length + 1)).filter fun j => Wn l j s != 0 := by
  unfold Ux06.numbers
  have key : ∀ (c : List (Array Nat)) (a : Nat), (((c.zipIdx a).filter fun x => x.1.getD s 0 != 0).map fun x => x.2) = ((List.range' a c.length).filter fun j => ((c.map fun z => z.getD s 0).getD (j - a) 0) != 0) := by
    intro c
    induction c with
    | nil => intro a; rfl
    | cons z c ih =>
      intro a
      have ih' := ih (a + 1)
      rw [List.zipIdx_cons, List.filter_cons, List.length_cons, List.range'_succ, List.filter_cons]
      have e : ((List.range' (a + 1) c.length).filter fun j => (((z :: c).map fun z => z.getD s 0).getD (j - a) 0) != 0) = ((List.range' (a + 1) c.length).filter fun j => ((c.map fun z => z.getD s 0).getD (j - (a + 1)) 0) != 0) := by
        apply List.filter_congr
        intro j hj
        have hj' := List.mem_range'_1.mp hj
        have : j - a = (j - (a + 1)) + 1 := by omega
        rw [this]
        rfl
      rw [e, ← ih']
      have e2 : (((z :: c).map fun z => z.getD s 0).getD (a - a) 0) = z.getD s 0 := by
        rw [Nat.sub_self]; rfl
      rw [e2]
      split <;> rfl
  rw [key, counts_len, ← List.range_eq_range']
  apply List.filter_congr
  intro j hj
  have hj' := List.mem_range.mp hj
  rw [counts_eq, Nat.sub_zero, getD_range _ _ _ _ hj']
/-- the first set, leaf by leaf -/
def Fs : List Nat → Nat → Nat → List Nat
  | [], _, _ => []
  | k :: l, m, s => if m ≠ 0 ∧ worth k ≤ s ∧ Wn l (m - 1) (s - worth k) ≠ 0 then k :: Fs l (m - 1) (s - worth k) else Fs l m s
theorem first_eq (l : List Nat) (m s : Nat) : Ux06.first l m s = if Wn l m s = 0 then none else some (Fs l m s) := by
  have key : ∀ (l : List Nat) (acc : List Nat) (m s : Nat),
      (l.foldl (fun (x : List Nat × Nat × Nat × List Nat) k =>
        let r := x.2.2.2.drop 1
        if x.2.1 ≠ 0 ∧ worth k ≤ x.2.2.1 ∧ Ux06.ways r (x.2.1 - 1) (x.2.2.1 - worth k) ≠ 0 then (x.1 ++ [k], x.2.1 - 1, x.2.2.1 - worth k, r) else (x.1, x.2.1, x.2.2.1, r)) (acc, m, s, l)).1 = acc ++ Fs l m s := by
    intro l
    induction l with
    | nil => intro acc m s; simp [Fs]
    | cons k l ih =>
      intro acc m s
      rw [List.foldl_cons]
      simp only [List.drop_succ_cons, List.drop_zero, ways_eq]
      simp only [ways_eq] at ih
      unfold Fs
      split
      · rw [ih, List.append_assoc]; rfl
      · rw [ih]
  unfold Ux06.first
  simp only [key, List.nil_append, ways_eq l]
/-! ## Facts of Wn -/
theorem W_zero (l : List Nat) (s : Nat) : Wn l 0 s = if s = 0 then 1 else 0 := by
  induction l with
  | nil => unfold Wn; simp
  | cons k l ih => unfold Wn; rw [ih]; simp
/-- the leaves' own numbers in the pages' place -/
def Vn : List Nat → Nat → Nat → Nat
  | [], m, t => if m = 0 ∧ t = 0 then 1 else 0
  | k :: l, m, t => Vn l m t + (if m = 0 ∨ t < k then 0 else Vn l (m - 1) (t - k))
theorem V_low : ∀ (l : List Nat), (∀ k ∈ l, 1 ≤ k) → ∀ m t, t < m → Vn l m t = 0
  | [], _, m, t, h => by unfold Vn; rw [if_neg (by omega)]
  | k :: l, hl, m, t, h => by
    have hk : 1 ≤ k := hl k (List.mem_cons_self ..)
    have ih := V_low l fun x hx => hl x (List.mem_cons_of_mem _ hx)
    unfold Vn
    rw [ih m t h]
    split
    · rfl
    · rw [ih _ _ (by omega)]
theorem W_V : ∀ (l : List Nat), (∀ k ∈ l, 1 ≤ k) → ∀ m s, Wn l m s = if (s + m) % 4 = 0 then Vn l m ((s + m) / 4) else 0
  | [], _, m, s => by
    unfold Wn Vn
    by_cases h : m = 0 ∧ s = 0
    · obtain ⟨rfl, rfl⟩ := h; rfl
    · rw [if_neg h]
      split
      · rw [if_neg (by omega)]
      · rfl
  | k :: l, hl, m, s => by
    have hk : 1 ≤ k := hl k (List.mem_cons_self ..)
    have ih := W_V l fun x hx => hl x (List.mem_cons_of_mem _ hx)
    unfold Wn Vn
    rw [ih m s]
    have hw : worth k = 4 * k - 1 := rfl
    by_cases h4 : (s + m) % 4 = 0
    · rw [if_pos h4, if_pos h4]
      by_cases hm : m = 0 ∨ s < worth k
      · rw [if_pos hm]
        split
        · rfl
        · rw [V_low l (fun x hx => hl x (List.mem_cons_of_mem _ hx)) (m - 1) ((s + m) / 4 - k) (by omega)]
      · rw [if_neg hm, if_neg (by omega), ih]
        have e : s - worth k + (m - 1) = s + m - 4 * k := by omega
        rw [e, if_pos (by omega)]
        have : (s + m - 4 * k) / 4 = (s + m) / 4 - k := by omega
        rw [this]
    · rw [if_neg h4, if_neg h4]
      by_cases hm : m = 0 ∨ s < worth k
      · rw [if_pos hm]
      · rw [if_neg hm, ih, if_neg (by omega)]
/-- the order of the leaves is nothing -/
theorem W_swap (a b : Nat) (l : List Nat) (m s : Nat) : Wn (a :: b :: l) m s = Wn (b :: a :: l) m s := by
  simp only [Wn]
  by_cases h0 : m = 0
  · subst h0; simp
  · by_cases h1 : m = 1
    · subst h1
      simp only [Nat.sub_self, true_or, if_true, Nat.one_ne_zero, false_or]
      split <;> split <;> omega
    · have h2 : ¬ m - 1 = 0 := by omega
      simp only [h0, h2, false_or]
      by_cases ha : s < worth a
      · by_cases hb : s < worth b
        · simp [ha, hb]
        · have hab : s - worth b < worth a := by omega
          simp [ha, hb, hab]
      · by_cases hb : s < worth b
        · have hab : s - worth a < worth b := by omega
          simp [ha, hb, hab]
        · simp only [ha, hb, if_false]
          by_cases hab : s < worth a + worth b
          · rw [if_pos (show s - worth a < worth b by omega), if_pos (show s - worth b < worth a by omega)]; omega
          · rw [if_neg (show ¬ s - worth a < worth b by omega), if_neg (show ¬ s - worth b < worth a by omega)]
            have : s - worth a - worth b = s - worth b - worth a := by omega
            rw [this]; omega
theorem W_perm {l l' : List Nat} (h : l.Perm l') : ∀ m s, Wn l m s = Wn l' m s := by
  induction h with
  | nil => intro m s; rfl
  | cons x _ ih => intro m s; unfold Wn; rw [ih, ih]
  | swap x y l => intro m s; exact W_swap y x l m s
  | trans _ _ h1 h2 => intro m s; rw [h1, h2]
theorem V_swap (a b : Nat) (l : List Nat) (m s : Nat) : Vn (a :: b :: l) m s = Vn (b :: a :: l) m s := by
  simp only [Vn]
  by_cases h0 : m = 0
  · subst h0; simp
  · by_cases h1 : m = 1
    · subst h1
      simp only [Nat.sub_self, true_or, if_true, Nat.one_ne_zero, false_or]
      split <;> split <;> omega
    · have h2 : ¬ m - 1 = 0 := by omega
      simp only [h0, h2, false_or]
      by_cases ha : s < a
      · by_cases hb : s < b
        · simp [ha, hb]
        · have hab : s - b < a := by omega
          simp [ha, hb, hab]
      · by_cases hb : s < b
        · have hab : s - a < b := by omega
          simp [ha, hb, hab]
        · simp only [ha, hb, if_false]
          by_cases hab : s < a + b
          · rw [if_pos (show s - a < b by omega), if_pos (show s - b < a by omega)]; omega
          · rw [if_neg (show ¬ s - a < b by omega), if_neg (show ¬ s - b < a by omega)]
            have : s - a - b = s - b - a := by omega
            rw [this]; omega
theorem V_perm {l l' : List Nat} (h : l.Perm l') : ∀ m s, Vn l m s = Vn l' m s := by
  induction h with
  | nil => intro m s; rfl
  | cons x _ ih => intro m s; unfold Vn; rw [ih, ih]
  | swap x y l => intro m s; exact V_swap y x l m s
  | trans _ _ h1 h2 => intro m s; rw [h1, h2]
/-- more leaves than there are: none -/
theorem W_many : ∀ (l : List Nat) (m s : Nat), l.length < m → Wn l m s = 0
  | [], m, s, h => by unfold Wn; rw [if_neg]; simp at h; omega
  | k :: l, m, s, h => by
    have h' : l.length + 1 < m := h
    unfold Wn
    rw [W_many l m s (by omega)]
    split
    · rfl
    · rw [W_many l (m - 1) _ (by omega)]
/-- a sum above that of all: none -/
theorem W_above : ∀ (l : List Nat) (m s : Nat), (l.map worth).sum < s → Wn l m s = 0
  | [], m, s, h => by unfold Wn; rw [if_neg]; simp at h; omega
  | k :: l, m, s, h => by
    have h' : worth k + (l.map worth).sum < s := by simpa using h
    unfold Wn
    rw [W_above l m s (by omega)]
    split
    · rfl
    · rw [W_above l (m - 1) _ (by omega)]
end Tl

namespace Tl
open Ux06 (worth leaves counts)
/-! ## Of leaves one behind another just the totals between can be -/
/-- m leaves out of a, a + 1, .., a + c - 1 can have the total t -/
def Rch (a c m t : Nat) : Prop := m ≤ c ∧ 2 * (m * a) + m * m ≤ 2 * t + m ∧ 2 * t + m * m + m ≤ 2 * (m * a) + 2 * (m * c)
instance rchDec (a c m t : Nat) : Decidable (Rch a c m t) := by unfold Rch; infer_instance
theorem V_zero (l : List Nat) (s : Nat) : Vn l 0 s = if s = 0 then 1 else 0 := by
  induction l with
  | nil => unfold Vn; simp
  | cons k l ih => unfold Vn; rw [ih]; simp
theorem even_sq : ∀ j : Nat, ∃ u, j * j + j = 2 * u
  | 0 => ⟨0, rfl⟩
  | j + 1 => by
    obtain ⟨u, hu⟩ := even_sq j
    exact ⟨u + j + 1, by rw [Nat.succ_mul, Nat.mul_succ]; omega⟩
theorem reach_step (a c j t : Nat) : Rch a (c + 1) (j + 1) t ↔ Rch (a + 1) c (j + 1) t ∨ (a ≤ t ∧ Rch (a + 1) c j (t - a)) := by
  unfold Rch
  have e1 : (j + 1) * a = j * a + a := by rw [Nat.succ_mul]
  have e2 : (j + 1) * (j + 1) = j * j + 2 * j + 1 := by rw [Nat.succ_mul, Nat.mul_succ]; omega
  have e3 : (j + 1) * (c + 1) = j * c + j + c + 1 := by rw [Nat.succ_mul, Nat.mul_succ]; omega
  have e4 : (j + 1) * (a + 1) = j * a + a + j + 1 := by rw [Nat.succ_mul, Nat.mul_succ]; omega
  have e5 : (j + 1) * c = j * c + c := by rw [Nat.succ_mul]
  have e6 : j * (a + 1) = j * a + j := by rw [Nat.mul_succ]
  rw [e1, e2, e3, e4, e5, e6]
  clear e1 e2 e3 e4 e5 e6
  have q0 : j ≤ j * j := Nat.le_mul_self j
  obtain ⟨u, hu⟩ := even_sq j
  have q1 : j + 1 ≤ c → j * j + j ≤ j * c := fun h => by
    have := Nat.mul_le_mul_left j h
    rw [Nat.mul_succ] at this; exact this
  have q2 : j = c → j * c = j * j := fun h => by rw [h]
  generalize j * a = P at *
  generalize j * c = Q at *
  generalize j * j = S at *
  constructor
  · rintro ⟨h1, h2, h3⟩
    by_cases hc : j + 1 ≤ c
    · have := q1 hc
      by_cases hh : 2 * (P + a + j + 1) + (S + 2 * j + 1) ≤ 2 * t + (j + 1)
      · left; exact ⟨hc, hh, by omega⟩
      · right; exact ⟨by omega, by omega, by omega, by omega⟩
    · have := q2 (by omega)
      right; exact ⟨by omega, by omega, by omega, by omega⟩
  · rintro (⟨h1, h2, h3⟩ | ⟨h0, h1, h2, h3⟩)
    · exact ⟨by omega, by omega, by omega⟩
    · exact ⟨by omega, by omega, by omega⟩
theorem V_reach : ∀ (c a m t : Nat), Vn (List.range' a c) m t ≠ 0 ↔ Rch a c m t
  | 0, a, m, t => by
    show Vn [] m t ≠ 0 ↔ _
    unfold Vn Rch
    by_cases h : m = 0 ∧ t = 0
    · obtain ⟨rfl, rfl⟩ := h; simp
    · rw [if_neg h]
      simp only [ne_eq, not_true, false_iff]
      rintro ⟨h1, h2, h3⟩
      have : m = 0 := by omega
      subst this
      simp at h3
      omega
  | c + 1, a, 0, t => by
    rw [V_zero]
    unfold Rch
    by_cases h : t = 0
    · subst h; simp
    · rw [if_neg h]; simp; omega
  | c + 1, a, j + 1, t => by
    rw [reach_step, ← V_reach c (a + 1) (j + 1) t, ← V_reach c (a + 1) j (t - a), List.range'_succ]
    show Vn (List.range' (a + 1) c) (j + 1) t + (if j + 1 = 0 ∨ t < a then 0 else Vn (List.range' (a + 1) c) (j + 1 - 1) (t - a)) ≠ 0 ↔ _
    rw [Nat.add_sub_cancel]
    by_cases h : t < a
    · rw [if_pos (Or.inr h)]; omega
    · rw [if_neg (by omega)]; omega
theorem leaves_eq (n : Nat) : leaves n = List.range' 1 n := by
  unfold leaves
  apply List.ext_getElem
  · simp
  · intro i h1 h2
    simp [Nat.add_comm]
/-- the first set by the leaves' own numbers -/
def FV : List Nat → Nat → Nat → List Nat
  | [], _, _ => []
  | k :: l, m, t => if m ≠ 0 ∧ k ≤ t ∧ Vn l (m - 1) (t - k) ≠ 0 then k :: FV l (m - 1) (t - k) else FV l m t
theorem F_FV : ∀ (l : List Nat), (∀ k ∈ l, 1 ≤ k) → ∀ m s, (s + m) % 4 = 0 → Fs l m s = FV l m ((s + m) / 4)
  | [], _, m, s, _ => rfl
  | k :: l, hl, m, s, h4 => by
    have hk : 1 ≤ k := hl k (List.mem_cons_self ..)
    have hl' : ∀ x ∈ l, 1 ≤ x := fun x hx => hl x (List.mem_cons_of_mem _ hx)
    have ih := F_FV l hl'
    have hw : worth k = 4 * k - 1 := rfl
    unfold Fs FV
    by_cases hm : m = 0
    · rw [if_neg (by simp [hm]), if_neg (by simp [hm]), ih m s h4]
    · by_cases hs : worth k ≤ s
      · have e : s - worth k + (m - 1) = s + m - 4 * k := by omega
        have e4 : (s + m - 4 * k) / 4 = (s + m) / 4 - k := by omega
        have e5 : (s + m - 4 * k) % 4 = 0 := by omega
        have ew : Wn l (m - 1) (s - worth k) = Vn l (m - 1) ((s + m) / 4 - k) := by
          rw [W_V l hl', e, if_pos e5, e4]
        rw [ew]
        by_cases hv : Vn l (m - 1) ((s + m) / 4 - k) ≠ 0
        · rw [if_pos ⟨hm, hs, hv⟩, if_pos ⟨hm, by omega, hv⟩, ih _ _ (by rw [e]; exact e5), e, e4]
        · rw [if_neg (fun h => hv h.2.2), if_neg (fun h => hv h.2.2), ih m s h4]
      · rw [if_neg (fun h => hs h.2.1), ih m s h4]
        by_cases hkt : k ≤ (s + m) / 4
        · have hv : Vn l (m - 1) ((s + m) / 4 - k) = 0 := V_low l hl' _ _ (by omega)
          rw [if_neg (fun h => h.2.2 hv)]
        · rw [if_neg (fun h => hkt h.2.1)]
/-- how the taken part of a first set goes: its length and its total -/
theorem FV_len : ∀ (l : List Nat) (m t : Nat), Vn l m t ≠ 0 → (FV l m t).length = m
  | [], m, t, h => by
    unfold Vn at h
    by_cases hm : m = 0 ∧ t = 0
    · rw [hm.1]; rfl
    · rw [if_neg hm] at h; exact absurd rfl h
  | k :: l, m, t, h => by
    unfold FV
    by_cases hc : m ≠ 0 ∧ k ≤ t ∧ Vn l (m - 1) (t - k) ≠ 0
    · rw [if_pos hc, List.length_cons, FV_len l _ _ hc.2.2]; omega
    · rw [if_neg hc]
      refine FV_len l m t ?_
      unfold Vn at h
      by_cases hm : m = 0 ∨ t < k
      · rw [if_pos hm] at h; exact h
      · rw [if_neg hm] at h
        intro e
        rw [e, Nat.zero_add] at h
        exact hc ⟨by omega, by omega, h⟩
theorem F_len : ∀ (l : List Nat) (m s : Nat), Wn l m s ≠ 0 → (Fs l m s).length = m
  | [], m, t, h => by
    unfold Wn at h
    by_cases hm : m = 0 ∧ t = 0
    · rw [hm.1]; rfl
    · rw [if_neg hm] at h; exact absurd rfl h
  | k :: l, m, t, h => by
    unfold Fs
    by_cases hc : m ≠ 0 ∧ worth k ≤ t ∧ Wn l (m - 1) (t - worth k) ≠ 0
    · rw [if_pos hc, List.length_cons, F_len l _ _ hc.2.2]; omega
    · rw [if_neg hc]
      refine F_len l m t ?_
      unfold Wn at h
      by_cases hm : m = 0 ∨ t < worth k
      · rw [if_pos hm] at h; exact h
      · rw [if_neg hm] at h
        intro e
        rw [e, Nat.zero_add] at h
        exact hc ⟨by omega, by omega, h⟩
end Tl

namespace Tl
open Ux06 (worth leaves counts)
theorem W_snoc (l : List Nat) (k m s : Nat) : Wn (l ++ [k]) m s = Wn l m s + (if m = 0 ∨ s < worth k then 0 else Wn l (m - 1) (s - worth k)) := by
  rw [W_perm (List.perm_append_comm : (l ++ [k]).Perm ([k] ++ l))]
  rfl
theorem V_snoc (l : List Nat) (k m s : Nat) : Vn (l ++ [k]) m s = Vn l m s + (if m = 0 ∨ s < k then 0 else Vn l (m - 1) (s - k)) := by
  rw [V_perm (List.perm_append_comm : (l ++ [k]).Perm ([k] ++ l))]
  rfl
theorem leaves_succ (n : Nat) : leaves (n + 1) = leaves n ++ [n + 1] := by
  unfold leaves
  rw [List.range_succ, List.map_append]
  rfl
theorem leaves_len (n : Nat) : (leaves n).length = n := by simp [leaves]
theorem mem_leaves (n k : Nat) : k ∈ leaves n ↔ 1 ≤ k ∧ k ≤ n := by
  rw [leaves_eq, List.mem_range'_1]; omega
theorem leaves_pos (n : Nat) : ∀ k ∈ leaves n, 1 ≤ k := fun k h => ((mem_leaves n k).mp h).1
theorem leaves_rise (n : Nat) : (leaves n).Pairwise (· < ·) := by
  rw [leaves_eq]; exact List.pairwise_lt_range'
/-! ## the book -/
structure Ok (b : Ux06.Book) : Prop where
  lo : 1 ≤ b.n
  hi : b.n ≤ 30
  rise : b.torn.Pairwise (· < ·)
  mem : ∀ k ∈ b.torn, 1 ≤ k ∧ k ≤ b.n
theorem rise_len : ∀ (l : List Nat) (a c : Nat), l.Pairwise (· < ·) → (∀ k ∈ l, a ≤ k ∧ k < a + c) → l.length ≤ c
  | [], _, _, _, _ => Nat.zero_le _
  | x :: l, a, c, hp, hm => by
    have hx := hm x (List.mem_cons_self ..)
    rw [List.pairwise_cons] at hp
    have ih := rise_len l (x + 1) (a + c - (x + 1)) hp.2 fun k hk => by
      have h1 := hp.1 k hk
      have h2 := hm k (List.mem_cons_of_mem _ hk)
      omega
    rw [List.length_cons]; omega
theorem Ok.len {b : Ux06.Book} (h : Ok b) : b.torn.length ≤ b.n := rise_len b.torn 1 b.n h.rise fun k hk => by have := h.mem k hk; omega
theorem Ok.nodup {b : Ux06.Book} (h : Ok b) : b.torn.Nodup := h.rise.imp fun h => Nat.ne_of_lt h
theorem ok_init : Ok Ux06.init := ⟨by decide, by decide, List.Pairwise.nil, fun k h => nomatch h⟩
theorem insert_perm (k : Nat) : ∀ l : List Nat, (Ux06.insert k l).Perm (k :: l)
  | [] => List.Perm.refl _
  | x :: l => by
    unfold Ux06.insert
    split
    · exact List.Perm.refl _
    · exact ((insert_perm k l).cons x).trans (List.Perm.swap k x l)
theorem insert_rise (k : Nat) : ∀ l : List Nat, l.Pairwise (· < ·) → k ∉ l → (Ux06.insert k l).Pairwise (· < ·)
  | [], _, _ => List.pairwise_singleton _ _
  | x :: l, hp, hk => by
    unfold Ux06.insert
    rw [List.pairwise_cons] at hp
    have hkx : k ≠ x := fun e => hk (by rw [e]; exact List.mem_cons_self ..)
    have hkl : k ∉ l := fun e => hk (List.mem_cons_of_mem _ e)
    split
    · rename_i h
      refine List.pairwise_cons.mpr ⟨fun y hy => ?_, List.pairwise_cons.mpr hp⟩
      rcases List.mem_cons.mp hy with e | hy
      · rw [e]; exact h
      · exact Nat.lt_trans h (hp.1 y hy)
    · rename_i h
      refine List.pairwise_cons.mpr ⟨fun y hy => ?_, insert_rise k l hp.2 hkl⟩
      rcases List.mem_cons.mp ((insert_perm k l).mem_iff.mp hy) with e | hy
      · rw [e]; omega
      · exact hp.1 y hy
theorem Ok.tear {b : Ux06.Book} (h : Ok b) {k : Nat} (h1 : 1 ≤ k) (h2 : k ≤ b.n) (h3 : k ∉ b.torn) : Ok { b with torn := Ux06.insert k b.torn } :=
  ⟨h.lo, h.hi, insert_rise k _ h.rise h3, fun x hx => by
    rcases List.mem_cons.mp ((insert_perm k _).mem_iff.mp hx) with e | hx
    · rw [e]; exact ⟨h1, h2⟩
    · exact h.mem x hx⟩
theorem Ok.put {b : Ux06.Book} (h : Ok b) (k : Nat) : Ok { b with torn := b.torn.filter fun x => x != k } :=
  ⟨h.lo, h.hi, h.rise.filter _, fun x hx => h.mem x (List.mem_filter.mp hx).1⟩
theorem Ok.step {b : Ux06.Book} (h : Ok b) (c : Ux06.Call) : Ok (Ux06.step b c).1 := by
  cases c with
  | book n =>
    unfold Ux06.step
    simp only []
    split
    · exact h
    · exact ⟨by show 1 ≤ n; omega, by show n ≤ 30; omega, List.Pairwise.nil, fun k h => nomatch h⟩
  | tear k =>
    unfold Ux06.step
    simp only []
    split
    · exact h
    · split
      · exact h
      · rename_i h1 h2
        exact h.tear (by omega) (by omega) fun e => h2 (by simpa using e)
  | put k =>
    unfold Ux06.step
    simp only []
    split
    · exact h
    · split
      · exact h
      · exact h.put k
  | _ => exact h
/-! ## sums -/
theorem worth_int {k : Nat} (h : 1 ≤ k) : ((worth k : Nat) : Int) = 4 * (k : Int) - 1 := by unfold worth; omega
theorem sum_perm {l l' : List Nat} (h : l.Perm l') : Ux06.sum l = Ux06.sum l' := by
  rw [sum_eq, sum_eq]; exact (h.map worth).sum_nat
theorem sum_left_of (l t : List Nat) (hl : l.Nodup) (ht : t.Nodup) (hs : ∀ k ∈ t, k ∈ l) : Ux06.sum t + Ux06.sum (l.filter fun k => !t.contains k) = Ux06.sum l := by
  rw [sum_eq, sum_eq, sum_eq, ← List.sum_append, ← List.map_append]
  refine ((List.Perm.map worth ?_).sum_nat)
  have h1 : (l.filter (fun k => t.contains k) ++ l.filter fun k => !t.contains k).Perm l := List.filter_append_perm _ _
  refine List.Perm.trans (List.Perm.append_right _ ?_) h1
  refine (List.perm_ext_iff_of_nodup ht (hl.filter _)).mpr fun k => ?_
  rw [List.mem_filter]
  constructor
  · intro hk; exact ⟨hs k hk, by simpa using hk⟩
  · rintro ⟨_, hk⟩; simpa using hk
theorem sum_left {b : Ux06.Book} (h : Ok b) : Ux06.sum b.torn + Ux06.sum (Ux06.left b) = Ux06.sum (leaves b.n) :=
  sum_left_of (leaves b.n) b.torn ((leaves_rise _).imp fun h => Nat.ne_of_lt h) h.nodup fun k hk => (mem_leaves _ _).mpr (h.mem k hk)
/-! ## gaps, from the left -/
def gapEnd (G : List (Nat × Nat)) (k : Nat) : List (Nat × Nat) := match G.getLast? with
  | none => [(k, k)]
  | some g => if k = g.2 + 1 then G.dropLast ++ [(g.1, k)] else G ++ [(k, k)]
def gapHead (k : Nat) (G : List (Nat × Nat)) : List (Nat × Nat) := match G with
  | [] => [(k, k)]
  | g :: r => if g.1 = k + 1 then (k, g.2) :: r else (k, k) :: (g :: r)
theorem gaps_cons (k : Nat) (l : List Nat) : Ux06.gaps (k :: l) = gapHead k (Ux06.gaps l) := by
  rw [Ux06.gaps]; rfl
theorem gapEnd_cons2 (g h : Nat × Nat) (r : List (Nat × Nat)) (k : Nat) : gapEnd (g :: h :: r) k = g :: gapEnd (h :: r) k := by
  unfold gapEnd
  rw [List.getLast?_cons_cons]
  cases e : (h :: r).getLast? with
  | none => simp at e
  | some z =>
    simp only []
    split
    · rw [List.dropLast_cons_cons]; rfl
    · rfl
theorem head_end (a k : Nat) (G : List (Nat × Nat)) : gapHead a (gapEnd G k) = gapEnd (gapHead a G) k := by
  match G with
  | [] =>
    unfold gapHead gapEnd
    simp only [List.getLast?_nil, List.getLast?_singleton, List.dropLast_singleton, List.nil_append]
    split <;> rfl
  | [g] =>
    unfold gapHead gapEnd
    simp only [List.getLast?_singleton, List.dropLast_singleton, List.nil_append]
    by_cases h1 : k = g.2 + 1
    · by_cases h2 : g.1 = a + 1
      · simp [h1, h2]
      · simp [h1, h2]
    · by_cases h2 : g.1 = a + 1
      · simp [h1, h2]
      · simp [h1, h2]
  | g :: h :: r =>
    rw [gapEnd_cons2]
    unfold gapHead
    simp only []
    split
    · rw [gapEnd_cons2]
    · rw [gapEnd_cons2, gapEnd_cons2]
theorem gaps_snoc : ∀ (l : List Nat) (k : Nat), Ux06.gaps (l ++ [k]) = gapEnd (Ux06.gaps l) k
  | [], k => rfl
  | a :: l, k => by
    rw [List.cons_append, gaps_cons, gaps_snoc l k, gaps_cons, head_end]
/-! ## pieces -/
theorem piece_succ (a b : Nat) (h : a ≤ b + 1) : Ux06.piece a (b + 1) = Ux06.piece a b ++ [b + 1] := by
  unfold Ux06.piece
  have e : b + 1 + 1 - a = (b + 1 - a) + 1 := by omega
  rw [e, List.range_succ, List.map_append]
  congr 1
  simp; omega
theorem sum_append (l r : List Nat) : Ux06.sum (l ++ r) = Ux06.sum l + Ux06.sum r := by
  rw [sum_eq, sum_eq, sum_eq, List.map_append, List.sum_append]
theorem sum_one (k : Nat) : Ux06.sum [k] = worth k := by rw [sum_eq]; simp
theorem piece_none (a b : Nat) (h : b < a) : Ux06.piece a b = [] := by
  unfold Ux06.piece
  rw [show b + 1 - a = 0 by omega]; rfl
end Tl

namespace Tl
open Ux06Neutral (callOf asked1)
/-! ## the calls, one behind another -/
theorem flat_nil {f : Nat} {rs : List (List (List Int))} (h : PyFlat.calls PyUx06.shape f [] = some rs) : rs = [] := by
  unfold PyFlat.calls at h
  exact (Option.some.inj h).symm
theorem shape_view {p : Int} {n k : Nat} (h : PyUx06.shape p = some (n, k)) : ((p = 0 ∧ n = 1) ∨ (p = 1 ∧ n = 1) ∨ (p = 2 ∧ n = 1) ∨ (p = 3 ∧ n = 0) ∨ (p = 4 ∧ n = 0) ∨ (p = 5 ∧ n = 2) ∨ (p = 6 ∧ n = 2) ∨ (p = 7 ∧ n = 2) ∨ (p = 8 ∧ n = 1) ∨ (p = 9 ∧ n = 1) ∨ (p = 10 ∧ n = 1) ∨ (p = 11 ∧ n = 0) ∨ (p = 12 ∧ n = 1)) ∧ k = 0 := by
  by_cases h0 : p = 0
  · subst h0
    have e := (show PyUx06.shape 0 = some (1, 0) from rfl).symm.trans h
    cases e
    exact ⟨.inl ⟨rfl, rfl⟩, rfl⟩
  by_cases h1 : p = 1
  · subst h1
    have e := (show PyUx06.shape 1 = some (1, 0) from rfl).symm.trans h
    cases e
    exact ⟨.inr (.inl ⟨rfl, rfl⟩), rfl⟩
  by_cases h2 : p = 2
  · subst h2
    have e := (show PyUx06.shape 2 = some (1, 0) from rfl).symm.trans h
    cases e
    exact ⟨.inr (.inr (.inl ⟨rfl, rfl⟩)), rfl⟩
  by_cases h3 : p = 3
  · subst h3
    have e := (show PyUx06.shape 3 = some (0, 0) from rfl).symm.trans h
    cases e
    exact ⟨.inr (.inr (.inr (.inl ⟨rfl, rfl⟩))), rfl⟩
  by_cases h4 : p = 4
  · subst h4
    have e := (show PyUx06.shape 4 = some (0, 0) from rfl).symm.trans h
    cases e
    exact ⟨.inr (.inr (.inr (.inr (.inl ⟨rfl, rfl⟩)))), rfl⟩
  by_cases h5 : p = 5
  · subst h5
    have e := (show PyUx06.shape 5 = some (2, 0) from rfl).symm.trans h
    cases e
    exact ⟨.inr (.inr (.inr (.inr (.inr (.inl ⟨rfl, rfl⟩))))), rfl⟩
  by_cases h6 : p = 6
  · subst h6
    have e := (show PyUx06.shape 6 = some (2, 0) from rfl).symm.trans h
    cases e
    exact ⟨.inr (.inr (.inr (.inr (.inr (.inr (.inl ⟨rfl, rfl⟩)))))), rfl⟩
  by_cases h7 : p = 7
  · subst h7
    have e := (show PyUx06.shape 7 = some (2, 0) from rfl).symm.trans h
    cases e
    exact ⟨.inr (.inr (.inr (.inr (.inr (.inr (.inr (.inl ⟨rfl, rfl⟩))))))), rfl⟩
  by_cases h8 : p = 8
  · subst h8
    have e := (show PyUx06.shape 8 = some (1, 0) from rfl).symm.trans h
    cases e
    exact ⟨.inr (.inr (.inr (.inr (.inr (.inr (.inr (.inr (.inl ⟨rfl, rfl⟩)))))))), rfl⟩
  by_cases h9 : p = 9
  · subst h9
    have e := (show PyUx06.shape 9 = some (1, 0) from rfl).symm.trans h
    cases e
    exact ⟨.inr (.inr (.inr (.inr (.inr (.inr (.inr (.inr (.inr (.inl ⟨rfl, rfl⟩))))))))), rfl⟩
  by_cases h10 : p = 10
  · subst h10
    have e := (show PyUx06.shape 10 = some (1, 0) from rfl).symm.trans h
    cases e
    exact ⟨.inr (.inr (.inr (.inr (.inr (.inr (.inr (.inr (.inr (.inr (.inl ⟨rfl, rfl⟩)))))))))), rfl⟩
  by_cases h11 : p = 11
  · subst h11
    have e := (show PyUx06.shape 11 = some (0, 0) from rfl).symm.trans h
    cases e
    exact ⟨.inr (.inr (.inr (.inr (.inr (.inr (.inr (.inr (.inr (.inr (.inr (.inl ⟨rfl, rfl⟩))))))))))), rfl⟩
  by_cases h12 : p = 12
  · subst h12
    have e := (show PyUx06.shape 12 = some (1, 0) from rfl).symm.trans h
    cases e
    exact ⟨.inr (.inr (.inr (.inr (.inr (.inr (.inr (.inr (.inr (.inr (.inr (.inr (⟨rfl, rfl⟩)))))))))))), rfl⟩
  unfold PyUx06.shape at h
  rw [if_neg h0, if_neg h1, if_neg h2, if_neg h3, if_neg h4, if_neg h5, if_neg h6, if_neg h7, if_neg h8, if_neg h9, if_neg h10, if_neg h11, if_neg h12] at h
  cases h
theorem shape_two {p : Int} {n k : Nat} (h : PyUx06.shape p = some (n, k)) : k = 0 := by
  rcases shape_view h with ⟨_, h⟩
  exact h
theorem flat_cons {f : Nat} {p : Int} {r : List Int} {rs : List (List (List Int))} (h : PyFlat.calls PyUx06.shape f (p :: r) = some rs) :
    ∃ (n : Nat) (rs' : List (List (List Int))) (f' : Nat), PyUx06.shape p = some (n, 0) ∧ n ≤ r.length ∧ rs = [p :: r.take n] :: rs' ∧ PyFlat.calls PyUx06.shape f' (r.drop n) = some rs' := by
  cases f with
  | zero => unfold PyFlat.calls at h; cases h
  | succ f =>
    unfold PyFlat.calls at h
    unfold PyFlat.call at h
    simp only [] at h
    cases e : PyUx06.shape p with
    | none => rw [e] at h; cases h
    | some q =>
      obtain ⟨n, k⟩ := q
      have hk := shape_two e
      subst hk
      rw [e] at h
      simp only [] at h
      by_cases hl : r.length < n
      · rw [if_pos hl] at h; cases h
      · rw [if_neg hl] at h
        unfold PyFlat.rows at h
        simp only [] at h
        cases e2 : PyFlat.calls PyUx06.shape f (r.drop n) with
        | none => rw [e2] at h; cases h
        | some cs =>
          rw [e2] at h
          exact ⟨n, cs, f, rfl, by omega, (Option.some.inj h).symm, e2⟩
theorem whole_eq (c : List (List Int)) : PyUx06.whole c = c := by
  unfold PyUx06.whole
  split <;> rfl
theorem whole_map (cs : List (List (List Int))) : cs.map PyUx06.whole = cs := by
  have : PyUx06.whole = id := funext whole_eq
  rw [this, List.map_id]
/-- what is answered from a book on, over calls -/
def run (b : Ux06.Book) (rs : List (List (List Int))) : List Int := PyFlat.told (PyFlat.played (fun s c => Ux06Neutral.step s (c.headD [])) b rs)
theorem run_nil (b : Ux06.Book) : run b [] = [] := rfl
theorem run_cons (b : Ux06.Book) (c : List Int) (rs : List (List (List Int))) {x : Ux06.Call} (h : callOf c = some x) :
    run b ([c] :: rs) = ((Ux06.step b x).2.length : Int) :: (Ux06.step b x).2 ++ run (Ux06.step b x).1 rs := by
  have e : Ux06Neutral.step b c = ((Ux06.step b x).1, (Ux06.step b x).2) := by
    unfold Ux06Neutral.step
    rw [h]; rfl
  unfold run
  show PyFlat.told ((Ux06Neutral.step b c).2 :: PyFlat.played _ (Ux06Neutral.step b c).1 rs) = _
  rw [e]
  unfold PyFlat.told
  rw [List.flatMap_cons]
/-- what a request is -/
theorem asked_view {l : List Int} (h : PyUx06.answers_asked l = true) : ∃ rs, PyFlat.calls PyUx06.shape l.length l = some rs ∧ PyUx06.answers l = run Ux06.init rs ∧ (∀ c ∈ rs, asked1 (c.headD []) = true) ∧ (run Ux06.init rs).length ≤ 10000000 ∧ rs.length ≤ 40 := by
  unfold PyUx06.answers_asked at h
  cases e : PyFlat.calls PyUx06.shape l.length l with
  | none => rw [e] at h; cases h
  | some rs =>
    rw [e] at h
    have ea : PyUx06.answers l = run Ux06.init rs := by
      unfold PyUx06.answers PyUx06.calls
      rw [e]
      simp only [whole_map]
      rfl
    simp only [Bool.and_eq_true] at h
    obtain ⟨⟨⟨⟨_, h40⟩, _⟩, hask⟩, hsh⟩ := h
    refine ⟨rs, rfl, ea, ?_, ?_, ?_⟩
    · rw [whole_map] at hask
      unfold Ux06Neutral.asked at hask
      rw [Bool.and_eq_true] at hask
      have h1 := hask.1
      rw [List.all_map, List.all_eq_true] at h1
      exact fun c hc => h1 c hc
    · rw [ea] at hsh
      unfold PyFlat.short at hsh
      exact of_decide_eq_true hsh
    · unfold PyFlat.atMost at h40
      exact of_decide_eq_true h40
theorem nat_view {z : Int} (h : Ux06Neutral.nat z = true) : ∃ k : Nat, z = (k : Int) ∧ k < 4294967296 := by
  unfold Ux06Neutral.nat at h
  rw [Bool.and_eq_true] at h
  have h1 := of_decide_eq_true h.1
  have h2 := of_decide_eq_true h.2
  exact ⟨z.toNat, by omega, by omega⟩
theorem nats_view {l : List Int} (h : asked1 l = true) : (∀ z ∈ l, Ux06Neutral.nat z = true) ∧ callOf l = Ux06Neutral.callIn (l.map Int.toNat) := by
  unfold asked1 callOf at h
  unfold callOf
  by_cases hn : l.all Ux06Neutral.nat = false
  · rw [if_pos hn] at h; cases h
  · rw [if_neg hn]
    refine ⟨?_, rfl⟩
    have : l.all Ux06Neutral.nat = true := by simpa using hn
    exact List.all_eq_true.mp this
theorem args0 {p : Int} {as : List Int} (ha : asked1 (p :: as) = true) (hl : as.length = 0) : as = [] := by
  cases as with
  | nil => rfl
  | cons x r => cases hl
theorem args1 {p : Int} {as : List Int} (ha : asked1 (p :: as) = true) (hl : as.length = 1) : ∃ k : Nat, k < 4294967296 ∧ as = [(k : Int)] := by
  match as, hl with
  | [x], _ =>
    obtain ⟨k, rfl, hk⟩ := nat_view ((nats_view ha).1 x (by simp))
    exact ⟨k, hk, rfl⟩
theorem args2 {p : Int} {as : List Int} (ha : asked1 (p :: as) = true) (hl : as.length = 2) : ∃ k j : Nat, k < 4294967296 ∧ j < 4294967296 ∧ as = [(k : Int), (j : Int)] := by
  match as, hl with
  | [x, y], _ =>
    obtain ⟨k, rfl, hk⟩ := nat_view ((nats_view ha).1 x (by simp))
    obtain ⟨j, rfl, hj⟩ := nat_view ((nats_view ha).1 y (by simp))
    exact ⟨k, j, hk, hj, rfl⟩
/-- a call's number, its numbers, what call it is -/
inductive View : Int → Nat → List Int → Ux06.Call → Prop where
  | book (k : Nat) (h : k < 4294967296) : View 0 1 [(k : Int)] (.book k)
  | tear (k : Nat) (h : k < 4294967296) : View 1 1 [(k : Int)] (.tear k)
  | put (k : Nat) (h : k < 4294967296) : View 2 1 [(k : Int)] (.put k)
  | shows : View 3 0 [] .shows
  | sums : View 4 0 [] .sums
  | can (m s : Nat) (hm : m < 4294967296) (hs : s < 4294967296) : View 5 2 [(m : Int), (s : Int)] (.can m s)
  | first (m s : Nat) (hm : m < 4294967296) (hs : s < 4294967296) : View 6 2 [(m : Int), (s : Int)] (.first m s)
  | ways (m s : Nat) (hm : m < 4294967296) (hs : s < 4294967296) : View 7 2 [(m : Int), (s : Int)] (.ways m s)
  | numbers (s : Nat) (hs : s < 4294967296) : View 8 1 [(s : Int)] (.numbers s)
  | all (s : Nat) (hs : s < 4294967296) : View 9 1 [(s : Int)] (.all s)
  | pieces (s : Nat) (hs : s < 4294967296) : View 10 1 [(s : Int)] (.pieces s)
  | gaps : View 11 0 [] .gaps
  | rid (s : Nat) (hs : s < 4294967296) : View 12 1 [(s : Int)] (.rid s)
theorem view_of {p : Int} {n : Nat} {as : List Int} (hs : PyUx06.shape p = some (n, 0)) (hl : as.length = n) (ha : asked1 (p :: as) = true) : ∃ x, View p n as x ∧ callOf (p :: as) = some x := by
  have hc := (nats_view ha).2
  rcases (shape_view hs).1 with ⟨rfl, rfl⟩ | ⟨rfl, rfl⟩ | ⟨rfl, rfl⟩ | ⟨rfl, rfl⟩ | ⟨rfl, rfl⟩ | ⟨rfl, rfl⟩ | ⟨rfl, rfl⟩ | ⟨rfl, rfl⟩ | ⟨rfl, rfl⟩ | ⟨rfl, rfl⟩ | ⟨rfl, rfl⟩ | ⟨rfl, rfl⟩ | ⟨rfl, rfl⟩
  · obtain ⟨k, hk, rfl⟩ := args1 ha hl; exact ⟨_, .book k hk, by rw [hc]; rfl⟩
  · obtain ⟨k, hk, rfl⟩ := args1 ha hl; exact ⟨_, .tear k hk, by rw [hc]; rfl⟩
  · obtain ⟨k, hk, rfl⟩ := args1 ha hl; exact ⟨_, .put k hk, by rw [hc]; rfl⟩
  · cases args0 ha hl; exact ⟨_, .shows, by rw [hc]; rfl⟩
  · cases args0 ha hl; exact ⟨_, .sums, by rw [hc]; rfl⟩
  · obtain ⟨k, j, hk, hj, rfl⟩ := args2 ha hl; exact ⟨_, .can k j hk hj, by rw [hc]; rfl⟩
  · obtain ⟨k, j, hk, hj, rfl⟩ := args2 ha hl; exact ⟨_, .first k j hk hj, by rw [hc]; rfl⟩
  · obtain ⟨k, j, hk, hj, rfl⟩ := args2 ha hl; exact ⟨_, .ways k j hk hj, by rw [hc]; rfl⟩
  · obtain ⟨k, hk, rfl⟩ := args1 ha hl; exact ⟨_, .numbers k hk, by rw [hc]; rfl⟩
  · obtain ⟨k, hk, rfl⟩ := args1 ha hl; exact ⟨_, .all k hk, by rw [hc]; rfl⟩
  · obtain ⟨k, hk, rfl⟩ := args1 ha hl; exact ⟨_, .pieces k hk, by rw [hc]; rfl⟩
  · cases args0 ha hl; exact ⟨_, .gaps, by rw [hc]; rfl⟩
  · obtain ⟨k, hk, rfl⟩ := args1 ha hl; exact ⟨_, .rid k hk, by rw [hc]; rfl⟩
end Tl

namespace Tl
open Ux06 (worth leaves counts)
/-! ## the program's own arithmetic -/
theorem reach_iff (a c m : Nat) (t : Int) : ((m : Int) * (a : Int) + (m : Int) * ((m : Int) - 1) / 2 ≤ t ∧ t ≤ (m : Int) * ((a : Int) + (c : Int) - 1) - (m : Int) * ((m : Int) - 1) / 2) ↔ (0 ≤ t ∧ Rch a c m t.toNat) := by
  unfold Rch
  obtain ⟨u, hu⟩ := even_sq m
  have h1 : m ≤ m * m := Nat.le_mul_self m
  have e1 : (m : Int) * ((m : Int) - 1) = ((m * m : Nat) : Int) - (m : Int) := by rw [Int.mul_sub, Int.mul_one]; rw [Int.natCast_mul]
  have e2 : (m : Int) * ((a : Int) + (c : Int) - 1) = ((m * a : Nat) : Int) + ((m * c : Nat) : Int) - (m : Int) := by
    rw [Int.mul_sub, Int.mul_one, Int.mul_add, Int.natCast_mul, Int.natCast_mul]
  have e3 : (m : Int) * (a : Int) = ((m * a : Nat) : Int) := (Int.natCast_mul _ _).symm
  have q1 : m * m ≤ m * c → m ≤ c := fun h => by
    by_cases h0 : m = 0
    · omega
    · exact Nat.le_of_mul_le_mul_left h (by omega)
  rw [e1, e2, e3]
  clear e1 e2 e3
  generalize m * a = P at *
  generalize m * c = R at *
  generalize m * m = S at *
  constructor
  · rintro ⟨x, y⟩
    refine ⟨by omega, q1 (by omega), by omega, by omega⟩
  · rintro ⟨x, y, z, w⟩
    exact ⟨by omega, by omega⟩
/-- one leaf of the first set -/
theorem FV_step (i c m t : Nat) : FV (List.range' i (c + 1)) m t = if m ≠ 0 ∧ (0 ≤ (t : Int) - (i : Int) ∧ Rch (i + 1) c (m - 1) ((t : Int) - (i : Int)).toNat) then i :: FV (List.range' (i + 1) c) (m - 1) (t - i) else FV (List.range' (i + 1) c) m t := by
  rw [List.range'_succ]
  show (if m ≠ 0 ∧ i ≤ t ∧ Vn (List.range' (i + 1) c) (m - 1) (t - i) ≠ 0 then i :: FV (List.range' (i + 1) c) (m - 1) (t - i) else FV (List.range' (i + 1) c) m t) = _
  have e : ((t : Int) - (i : Int)).toNat = t - i := by omega
  have k : (m ≠ 0 ∧ i ≤ t ∧ Vn (List.range' (i + 1) c) (m - 1) (t - i) ≠ 0) ↔ (m ≠ 0 ∧ (0 ≤ (t : Int) - (i : Int) ∧ Rch (i + 1) c (m - 1) ((t : Int) - (i : Int)).toNat)) := by
    rw [e, V_reach]
    have q : i ≤ t ↔ 0 ≤ (t : Int) - (i : Int) := by omega
    rw [q]
  by_cases h : m ≠ 0 ∧ i ≤ t ∧ Vn (List.range' (i + 1) c) (m - 1) (t - i) ≠ 0
  · rw [if_pos h, if_pos (k.mp h)]
  · rw [if_neg h, if_neg fun z => h (k.mpr z)]
theorem exists_iff (n m s : Nat) : Wn (leaves n) m s ≠ 0 ↔ (s + m) % 4 = 0 ∧ Rch 1 n m ((s + m) / 4) := by
  rw [W_V _ (leaves_pos n), leaves_eq]
  by_cases h : (s + m) % 4 = 0
  · rw [if_pos h, V_reach]; simp [h]
  · rw [if_neg h]; simp [h]
/-- no set has a sum above 1830 -/
theorem W_top (n m s : Nat) (hn : n ≤ 30) (h : 1830 < s) : Wn (leaves n) m s = 0 := by
  refine W_above _ _ _ (Nat.lt_of_le_of_lt ?_ h)
  have step : ∀ n, ((leaves n).map worth).sum ≤ ((leaves (n + 1)).map worth).sum := fun n => by
    rw [leaves_succ, List.map_append, List.sum_append]; omega
  have mono : ∀ d, ((leaves n).map worth).sum ≤ ((leaves (n + d)).map worth).sum := fun d => by
    induction d with
    | zero => exact Nat.le_refl _
    | succ d ih => exact Nat.le_trans ih (step (n + d))
  have := mono (30 - n)
  rw [show n + (30 - n) = 30 by omega] at this
  exact Nat.le_trans this (by decide)
theorem can_eq (n m s : Nat) (hn : n ≤ 30) : (decide (s ≤ Ux06.TOP) && Ux06.ways (leaves n) m (min s Ux06.TOP) != 0) = decide (Wn (leaves n) m s ≠ 0) := by
  unfold Ux06.TOP
  rw [ways_eq]
  by_cases h : s ≤ 1830
  · rw [Nat.min_eq_left h, decide_eq_true h, Bool.true_and]
    by_cases hw : Wn (leaves n) m s = 0 <;> simp [hw]
  · rw [decide_eq_false h, Bool.false_and, W_top n m s hn (by omega)]
    rfl
theorem first_top (n m s : Nat) (hn : n ≤ 30) : (if Ux06.TOP < s then none else Ux06.first (leaves n) m s) = if Wn (leaves n) m s = 0 then none else some (Fs (leaves n) m s) := by
  rw [first_eq]
  unfold Ux06.TOP
  by_cases h : 1830 < s
  · rw [if_pos h, W_top n m s hn h, if_pos rfl]
  · rw [if_neg h]
theorem ways_top (n m s : Nat) (hn : n ≤ 30) : (if Ux06.TOP < s then 0 else Ux06.ways (leaves n) m s) = Wn (leaves n) m s := by
  rw [ways_eq]
  unfold Ux06.TOP
  by_cases h : 1830 < s
  · rw [if_pos h, W_top n m s hn h]
  · rw [if_neg h]
/-- the first set is found by the leaves' own numbers -/
theorem F_leaves (n m s : Nat) (h : (s + m) % 4 = 0) : Fs (leaves n) m s = FV (List.range' 1 n) m ((s + m) / 4) := by
  rw [F_FV _ (leaves_pos n) m s h, leaves_eq]
end Tl

namespace Tl
open Ux06 (worth leaves counts)
/-! ## rid: the fewest, then the first -/
theorem head_filter {p : Nat → Bool} : ∀ (c a m : Nat), a ≤ m → m < a + c → p m = true → (∀ j, a ≤ j → j < m → p j = false) → ((List.range' a c).filter p).head? = some m
  | 0, a, m, h1, h2, _, _ => by omega
  | c + 1, a, m, h1, h2, hm, hno => by
    rw [List.range'_succ, List.filter_cons]
    by_cases e : a = m
    · subst e; rw [if_pos hm]; rfl
    · rw [if_neg (by rw [hno a (Nat.le_refl _) (by omega)]; decide)]
      exact head_filter c (a + 1) m (by omega) (by omega) hm fun j h3 h4 => hno j (by omega) h4
theorem rid_low (b : Ux06.Book) (s : Nat) (h : s < Ux06.sum b.torn) : Ux06.rid b s = none := by
  unfold Ux06.rid; rw [if_pos h]
theorem rid_none (b : Ux06.Book) (s : Nat) (hl : Ux06.sum b.torn ≤ s) (h : ∀ m, m ≤ (Ux06.left b).length → Wn (Ux06.left b) m (s - Ux06.sum b.torn) = 0) : Ux06.rid b s = none := by
  unfold Ux06.rid
  rw [if_neg (by omega)]
  simp only []
  rw [numbers_eq]
  have e : (List.range ((Ux06.left b).length + 1)).filter (fun j => Wn (Ux06.left b) j (s - Ux06.sum b.torn) != 0) = [] := by
    rw [List.filter_eq_nil_iff]
    intro j hj
    rw [h j (by have := List.mem_range.mp hj; omega)]; decide
  rw [e]; rfl
theorem rid_some (b : Ux06.Book) (s m : Nat) (hl : Ux06.sum b.torn ≤ s) (hm : Wn (Ux06.left b) m (s - Ux06.sum b.torn) ≠ 0) (hno : ∀ j, j < m → Wn (Ux06.left b) j (s - Ux06.sum b.torn) = 0) :
    Ux06.rid b s = some (Fs (Ux06.left b) m (s - Ux06.sum b.torn)) := by
  have hle : m ≤ (Ux06.left b).length := by
    by_cases h : m ≤ (Ux06.left b).length
    · exact h
    · exact absurd (W_many _ _ _ (by omega)) hm
  unfold Ux06.rid
  rw [if_neg (by omega)]
  simp only []
  rw [numbers_eq, List.range_eq_range', head_filter _ 0 m (by omega) (by omega) (by simpa using hm) (fun j _ hj => by rw [hno j hj]; rfl)]
  show Ux06.first (Ux06.left b) m (s - Ux06.sum b.torn) = _
  rw [first_eq, if_neg hm]
/-! ## pieces -/
theorem piece_mono (a b c : Nat) (h1 : 1 ≤ a) (h2 : a ≤ b + 1) (h3 : b < c) : Ux06.sum (Ux06.piece a b) < Ux06.sum (Ux06.piece a c) := by
  induction c with
  | zero => omega
  | succ c ih =>
    rw [piece_succ a c (by omega), sum_append, sum_one]
    have hw : 1 ≤ worth (c + 1) := by unfold worth; omega
    by_cases e : b = c
    · subst e; omega
    · have := ih (by omega); omega
/-- the pieces from a on: those that end below b, with the sum s -/
def endsAt (a s : Nat) (l : List Nat) : List Nat := l.filter fun b => decide (a ≤ b) && Ux06.sum (Ux06.piece a b) == s
theorem pieces_eq (n s : Nat) : Ux06.pieces n s = (leaves n).flatMap fun a => (endsAt a s (leaves n)).map fun b => (a, b) := rfl
theorem endsAt_snoc (a s k : Nat) (l : List Nat) : endsAt a s (l ++ [k]) = endsAt a s l ++ (if a ≤ k ∧ Ux06.sum (Ux06.piece a k) = s then [k] else []) := by
  unfold endsAt
  rw [List.filter_append]
  congr 1
  rw [List.filter_cons, List.filter_nil]
  by_cases h : a ≤ k ∧ Ux06.sum (Ux06.piece a k) = s
  · rw [if_pos h, if_pos (by simp [h.1, h.2])]
  · rw [if_neg h, if_neg (fun z => h (by simpa using z))]
/-- none ends ahead of its first leaf -/
theorem endsAt_low (a s : Nat) (l : List Nat) (h : ∀ b ∈ l, b < a) : endsAt a s l = [] := by
  unfold endsAt
  rw [List.filter_eq_nil_iff]
  intro b hb z
  have := h b hb
  simp at z; omega
/-- none behind one that has the sum, or more -/
theorem endsAt_high (a s e : Nat) (l : List Nat) (h1 : 1 ≤ a) (h2 : a ≤ e + 1) (hs : s ≤ Ux06.sum (Ux06.piece a e)) (h : ∀ b ∈ l, e < b) : endsAt a s l = [] := by
  unfold endsAt
  rw [List.filter_eq_nil_iff]
  intro b hb z
  have := piece_mono a e b h1 h2 (h b hb)
  simp at z; omega
theorem endsAt_append (a s : Nat) (l r : List Nat) : endsAt a s (l ++ r) = endsAt a s l ++ endsAt a s r := List.filter_append ..
end Tl

namespace Tl
open Ux06 (worth leaves counts)
/-! ## Tables: how many sets, by (how many leaves, sum of pages), as the program keeps them -/
abbrev Ent := (Nat × Nat) × Nat
def gv (es : List Ent) (k : Nat × Nat) : Option Nat := (es.find? fun e => decide (e.1 = k)).map (·.2)
def putE (es : List Ent) (k : Nat × Nat) (c : Nat) : List Ent :=
  if (es.any fun e => decide (e.1 = k)) = true then es.map (fun e => if e.1 = k then (e.1, c) else e) else es ++ [(k, c)]
theorem gv_pos {p : Ent} {r : List Ent} {k : Nat × Nat} (e : p.1 = k) : gv (p :: r) k = some p.2 := by simp [gv, List.find?_cons, e]
theorem gv_neg {p : Ent} {r : List Ent} {k : Nat × Nat} (e : ¬ p.1 = k) : gv (p :: r) k = gv r k := by simp [gv, List.find?_cons, e]
theorem gv_any (k : Nat × Nat) : ∀ es : List Ent, (es.any fun e => decide (e.1 = k)) = (gv es k).isSome
  | [] => rfl
  | p :: r => by
    rw [List.any_cons]
    by_cases e : p.1 = k
    · simp only [gv_pos e, decide_eq_true e, Bool.true_or, Option.isSome_some]
    · rw [gv_neg e, decide_eq_false e, Bool.false_or]; exact gv_any k r
theorem gv_map (k j : Nat × Nat) (y : Nat) : ∀ es : List Ent, gv (es.map fun e => if e.1 = k then (e.1, y) else e) j = (gv es j).map fun x => if j = k then y else x
  | [] => rfl
  | p :: r => by
    have ih := gv_map k j y r
    rw [List.map_cons]
    by_cases h : p.1 = k
    · rw [if_pos h]
      by_cases e : p.1 = j
      · rw [gv_pos (p := (p.1, y)) e, gv_pos e, Option.map_some, if_pos (e.symm.trans h)]
      · rw [gv_neg (p := (p.1, y)) e, gv_neg e, ih]
    · rw [if_neg h]
      by_cases e : p.1 = j
      · rw [gv_pos (p := p) e, gv_pos e, Option.map_some, if_neg (fun z => h (e.trans z))]
      · rw [gv_neg (p := p) e, gv_neg e, ih]
theorem gv_app (j : Nat × Nat) (r : List Ent) : ∀ es : List Ent, gv (es ++ r) j = (gv es j).or (gv r j)
  | [] => rfl
  | p :: es => by
    rw [List.cons_append]
    by_cases e : p.1 = j
    · rw [gv_pos e, gv_pos e]; rfl
    · rw [gv_neg e, gv_neg e]; exact gv_app j r es
theorem gv_put (es : List Ent) (k j : Nat × Nat) (c : Nat) : gv (putE es k c) j = if j = k then some c else gv es j := by
  unfold putE
  rw [gv_any]
  by_cases h : (gv es k).isSome = true
  · rw [if_pos h, gv_map]
    by_cases e : j = k
    · subst e
      obtain ⟨x, hx⟩ := Option.isSome_iff_exists.mp h
      rw [hx, if_pos rfl]; simp
    · rw [if_neg e]
      simp [e]
  · rw [if_neg h, gv_app]
    have hn : gv es k = none := by simpa using h
    by_cases e : j = k
    · subst e
      rw [hn, if_pos rfl, gv_pos (p := (j, c)) rfl]; rfl
    · rw [if_neg e, gv_neg (p := (k, c)) (fun z => e z.symm)]
      show (gv es j).or none = _
      simp
theorem keys_map (k : Nat × Nat) (c : Nat) (es : List Ent) : (es.map fun e => if e.1 = k then (e.1, c) else e).map (·.1) = es.map (·.1) := by
  rw [List.map_map]
  refine List.map_congr_left fun e _ => ?_
  show (if e.1 = k then (e.1, c) else e).1 = e.1
  split <;> rfl
theorem gv_none {es : List Ent} {k : Nat × Nat} (h : gv es k = none) : k ∉ es.map (·.1) := by
  intro z
  obtain ⟨e, he, rfl⟩ := List.mem_map.mp z
  have q : (es.any fun x => decide (x.1 = e.1)) = true := List.any_eq_true.mpr ⟨e, he, by simp⟩
  rw [gv_any, h] at q
  cases q
theorem nd_put (es : List Ent) (k : Nat × Nat) (c : Nat) (h : (es.map (·.1)).Nodup) : ((putE es k c).map (·.1)).Nodup := by
  unfold putE
  rw [gv_any]
  by_cases hs : (gv es k).isSome = true
  · rw [if_pos hs, keys_map]; exact h
  · rw [if_neg hs, List.map_append]
    have hn : gv es k = none := by simpa using hs
    refine List.nodup_append.mpr ⟨h, by simp, ?_⟩
    intro a ha b hb
    have e : b = k := by simpa using hb
    subst e
    intro z
    subst z
    exact gv_none hn ha
theorem gv_mem : ∀ {es : List Ent}, (es.map (·.1)).Nodup → ∀ {e : Ent}, e ∈ es → gv es e.1 = some e.2
  | [], _, e, h => nomatch h
  | p :: r, nd, e, h => by
    rw [List.map_cons, List.nodup_cons] at nd
    by_cases q : p.1 = e.1
    · rcases List.mem_cons.mp h with z | z
      · rw [z]; exact gv_pos rfl
      · exact absurd (List.mem_map.mpr ⟨e, z, q.symm⟩) nd.1
    · rw [gv_neg q]
      rcases List.mem_cons.mp h with z | z
      · rw [z] at q; exact absurd rfl q
      · exact gv_mem nd.2 z
/-- the table es tells f -/
structure Tab (f : Nat → Nat → Nat) (es : List Ent) : Prop where
  val : ∀ m s, gv es (m, s) = if f m s = 0 then none else some (f m s)
  nd : (es.map (·.1)).Nodup
theorem Tab.put {f f' : Nat → Nat → Nat} {es : List Ent} (t : Tab f es) (m s c : Nat) (hc : f' m s = c) (h0 : c ≠ 0) (ho : ∀ a b, ¬ (a, b) = (m, s) → f' a b = f a b) : Tab f' (putE es (m, s) c) := by
  refine ⟨fun a b => ?_, nd_put _ _ _ t.nd⟩
  rw [gv_put]
  by_cases e : (a, b) = (m, s)
  · rw [if_pos e]
    injection e with e1 e2
    subst e1 e2
    rw [hc, if_neg h0]
  · rw [if_neg e, ho a b e]; exact t.val a b
theorem Tab.mem {f : Nat → Nat → Nat} {es : List Ent} (t : Tab f es) {e : Ent} (h : e ∈ es) : f e.1.1 e.1.2 = e.2 ∧ e.2 ≠ 0 := by
  have q := gv_mem t.nd h
  have v := t.val e.1.1 e.1.2
  rw [show ((e.1.1, e.1.2) : Nat × Nat) = e.1 from rfl, q] at v
  by_cases z : f e.1.1 e.1.2 = 0
  · rw [if_pos z] at v; cases v
  · rw [if_neg z] at v
    have := Option.some.inj v
    exact ⟨this.symm, by rw [this]; exact z⟩
theorem nodup_len : ∀ (N : Nat) (l : List Nat), l.Nodup → (∀ x ∈ l, x < N) → l.length ≤ N
  | 0, l, _, h => by
    cases l with
    | nil => exact Nat.le_refl _
    | cons x r => exact absurd (h x (List.mem_cons_self ..)) (Nat.not_lt_zero _)
  | N + 1, l, nd, h => by
    by_cases e : N ∈ l
    · have ih := nodup_len N (l.erase N) (nd.erase _) fun x hx => by
        have q := (List.Nodup.mem_erase_iff nd).mp hx
        have := h x q.2
        have := q.1
        omega
      rw [List.length_erase_of_mem e] at ih
      omega
    · have ih := nodup_len N l nd fun x hx => by
        have := h x hx
        have : x ≠ N := fun z => e (z ▸ hx)
        omega
      omega
theorem nodup_inj {α β : Type} (g : α → β) : ∀ (l : List α), l.Nodup → (∀ a ∈ l, ∀ b ∈ l, g a = g b → a = b) → (l.map g).Nodup
  | [], _, _ => List.nodup_nil
  | x :: r, nd, h => by
    rw [List.nodup_cons] at nd
    rw [List.map_cons, List.nodup_cons]
    refine ⟨fun z => ?_, nodup_inj g r nd.2 fun a ha b hb => h a (List.mem_cons_of_mem _ ha) b (List.mem_cons_of_mem _ hb)⟩
    obtain ⟨y, hy, e⟩ := List.mem_map.mp z
    have := h y (List.mem_cons_of_mem _ hy) x (List.mem_cons_self ..) e
    subst this
    exact nd.1 hy
/-- a table is no longer than there are keys -/
theorem Tab.len {f : Nat → Nat → Nat} {es : List Ent} (t : Tab f es) (h : ∀ m s, f m s ≠ 0 → m ≤ 30 ∧ s ≤ 1830) : es.length ≤ 56761 := by
  have hb : ∀ k ∈ es.map (·.1), k.1 ≤ 30 ∧ k.2 ≤ 1830 := fun k hk => by
    obtain ⟨e, he, rfl⟩ := List.mem_map.mp hk
    have q := t.mem he
    exact h _ _ (by rw [q.1]; exact q.2)
  have nd := nodup_inj (fun k : Nat × Nat => k.1 * 1831 + k.2) (es.map (·.1)) t.nd fun a ha b hb' e => by
    have h1 := hb a ha
    have h2 := hb b hb'
    have e' : a.1 * 1831 + a.2 = b.1 * 1831 + b.2 := e
    exact Prod.ext (by omega) (by omega)
  have := nodup_len 56761 _ nd fun x hx => by
    obtain ⟨k, hk, rfl⟩ := List.mem_map.mp hx
    have := hb k hk
    show k.1 * 1831 + k.2 < 56761
    omega
  rw [List.length_map, List.length_map] at this
  exact this
/-! ### one leaf more -/
/-- what the first i rows tell -/
def tk (es : List Ent) (i m s : Nat) : Nat := (gv (es.take i) (m, s)).getD 0
theorem tk_zero (es : List Ent) (m s : Nat) : tk es 0 m s = 0 := rfl
theorem take_snoc' {α : Type} : ∀ {l : List α} {i : Nat} {x : α}, l[i]? = some x → l.take (i + 1) = l.take i ++ [x]
  | [], i, x, h => by simp at h
  | a :: l, 0, x, h => by
    have e : a = x := Option.some.inj h
    subst e
    rfl
  | a :: l, i + 1, x, h => by
    have ih := take_snoc' (l := l) (i := i) (x := x) h
    show a :: l.take (i + 1) = a :: l.take i ++ [x]
    rw [ih]
    rfl
theorem tk_succ {es : List Ent} (nd : (es.map (·.1)).Nodup) {i a b c : Nat} (h : es[i]? = some ((a, b), c)) (m s : Nat) : tk es (i + 1) m s = tk es i m s + (if (m, s) = (a, b) then c else 0) := by
  unfold tk
  rw [take_snoc' h, gv_app]
  by_cases e : (m, s) = (a, b)
  · rw [if_pos e, e, gv_pos (p := ((a, b), c)) rfl]
    have hn : gv (es.take i) (a, b) = none := by
      cases q : gv (es.take i) (a, b) with
      | none => rfl
      | some x =>
        exfalso
        have q' : ((es.take i).any fun z => decide (z.1 = (a, b))) = true := by rw [gv_any, q]; rfl
        obtain ⟨z, hz, hz2⟩ := List.any_eq_true.mp q'
        have nd' : ((es.take (i + 1)).map (·.1)).Nodup := (nd.sublist ((List.take_sublist _ _).map _))
        rw [take_snoc' h, List.map_append, List.nodup_append] at nd'
        exact nd'.2.2 z.1 (List.mem_map.mpr ⟨z, hz, rfl⟩) (a, b) (by simp) (by simpa using hz2)
    rw [hn]
    show c = 0 + c
    omega
  · rw [if_neg e, gv_neg (p := ((a, b), c)) (fun z => e z.symm)]
    show ((gv (es.take i) (m, s)).or none).getD 0 = _
    rw [Option.or_none]; rfl
theorem tk_all {f : Nat → Nat → Nat} {es : List Ent} (t : Tab f es) (m s : Nat) : tk es es.length m s = f m s := by
  unfold tk
  rw [List.take_length, t.val]
  by_cases h : f m s = 0
  · rw [if_pos h, h]; rfl
  · rw [if_neg h]; rfl
theorem tk_le {f : Nat → Nat → Nat} {es : List Ent} (t : Tab f es) (i m s : Nat) : tk es i m s ≤ f m s := by
  have e : ∀ j, tk es i m s ≤ tk es (i + j) m s := fun j => by
    induction j with
    | zero => exact Nat.le_refl _
    | succ j ih =>
      refine Nat.le_trans ih ?_
      cases q : es[i + j]? with
      | none =>
        have hl : es.length ≤ i + j := List.getElem?_eq_none_iff.mp q
        unfold tk
        rw [show i + (j + 1) = i + j + 1 by omega, List.take_of_length_le hl, List.take_of_length_le (by omega)]
        exact Nat.le_refl _
      | some x =>
        obtain ⟨⟨a, b⟩, c⟩ := x
        rw [show i + (j + 1) = i + j + 1 by omega, tk_succ t.nd q]
        omega
  have h := e es.length
  rw [← tk_all t m s]
  refine Nat.le_trans h ?_
  unfold tk
  rw [List.take_of_length_le (by omega), List.take_length]
  exact Nat.le_refl _
/-- the table while the first i rows have been added with the leaf k -/
def fi (l : List Nat) (k : Nat) (es : List Ent) (i m s : Nat) : Nat := Wn l m s + (if m = 0 ∨ s < worth k then 0 else tk es i (m - 1) (s - worth k))
theorem fi_zero (l : List Nat) (k : Nat) (es : List Ent) (m s : Nat) : fi l k es 0 m s = Wn l m s := by
  unfold fi
  rw [tk_zero]
  split <;> rfl
theorem fi_zero' (l : List Nat) (k : Nat) (es : List Ent) : fi l k es 0 = Wn l := funext fun m => funext fun s => fi_zero l k es m s
theorem fi_all {l : List Nat} {k : Nat} {es : List Ent} (t : Tab (Wn l) es) : fi l k es es.length = Wn (k :: l) := by
  funext m s
  unfold fi
  rw [tk_all t]
  rfl
theorem fi_le {l : List Nat} {k : Nat} {es : List Ent} (t : Tab (Wn l) es) (i m s : Nat) : fi l k es i m s ≤ Wn (k :: l) m s := by
  show Wn l m s + (if m = 0 ∨ s < worth k then 0 else tk es i (m - 1) (s - worth k)) ≤ Wn l m s + (if m = 0 ∨ s < worth k then 0 else Wn l (m - 1) (s - worth k))
  split
  · exact Nat.le_refl _
  · exact Nat.add_le_add_left (tk_le t i _ _) _
theorem fi_succ {l : List Nat} {k : Nat} {es : List Ent} (t : Tab (Wn l) es) {i a b c : Nat} (h : es[i]? = some ((a, b), c)) (m s : Nat) :
    fi l k es (i + 1) m s = fi l k es i m s + (if (m, s) = (a + 1, b + worth k) then c else 0) := by
  unfold fi
  rw [tk_succ t.nd h]
  by_cases hm : m = 0 ∨ s < worth k
  · rw [if_pos hm, if_pos hm, if_neg (fun z => by injection z; omega)]
  · rw [if_neg hm, if_neg hm]
    by_cases e : (m, s) = (a + 1, b + worth k)
    · have e' := e
      injection e' with e1 e2
      rw [if_pos e, if_pos (by subst e1 e2; simp)]
      omega
    · rw [if_neg e, if_neg (fun z => e (by injection z with z1 z2; exact Prod.ext (by show m = a + 1; omega) (by show s = b + worth k; omega)))]
      omega
theorem Tab.turn {l : List Nat} {k : Nat} {es g : List Ent} (t : Tab (Wn l) es) {i a b c : Nat} (h : es[i]? = some ((a, b), c)) (tg : Tab (fi l k es i) g) :
    Tab (fi l k es (i + 1)) (putE g (a + 1, b + worth k) (fi l k es i (a + 1) (b + worth k) + c)) := by
  have hc := (t.mem (List.mem_of_getElem? h)).2
  refine tg.put _ _ _ ?_ ?_ fun m s z => ?_
  · rw [fi_succ t h, if_pos rfl]
  · have : c ≠ 0 := hc
    omega
  · rw [fi_succ t h, if_neg z]
    omega
theorem tab_nil : Tab (Wn []) [((0, 0), 1)] := by
  refine ⟨fun m s => ?_, by simp⟩
  by_cases h : m = 0 ∧ s = 0
  · obtain ⟨rfl, rfl⟩ := h
    rfl
  · have e : Wn [] m s = 0 := by
      show (if m = 0 ∧ s = 0 then 1 else 0) = 0
      rw [if_neg h]
    rw [e, if_pos rfl, gv_neg (fun z => h (by injection z with z1 z2; exact ⟨z1.symm, z2.symm⟩))]
    rfl
/-- what can be is within the bounds of a book -/
theorem W_bound {l : List Nat} (h1 : l.length ≤ 30) (h2 : (l.map worth).sum ≤ 1830) (m s : Nat) (h : Wn l m s ≠ 0) : m ≤ 30 ∧ s ≤ 1830 := by
  constructor
  · by_cases q : l.length < m
    · exact absurd (W_many l m s q) h
    · omega
  · by_cases q : (l.map worth).sum < s
    · exact absurd (W_above l m s q) h
    · omega
theorem leaves_worth (n : Nat) (hn : n ≤ 30) : ((leaves n).map worth).sum ≤ 1830 := by
  have step : ∀ n, ((leaves n).map worth).sum ≤ ((leaves (n + 1)).map worth).sum := fun n => by
    rw [leaves_succ, List.map_append, List.sum_append]; omega
  have mono : ∀ d, ((leaves n).map worth).sum ≤ ((leaves (n + d)).map worth).sum := fun d => by
    induction d with
    | zero => exact Nat.le_refl _
    | succ d ih => exact Nat.le_trans ih (step (n + d))
  have := mono (30 - n)
  rw [show n + (30 - n) = 30 by omega] at this
  exact Nat.le_trans this (by decide)
theorem left_worth {b : Ux06.Book} (h : Ok b) : ((Ux06.left b).map worth).sum ≤ 1830 := by
  have e := sum_left h
  have q := leaves_worth b.n h.hi
  rw [← sum_eq] at q ⊢
  omega
theorem left_len {b : Ux06.Book} (h : Ok b) : (Ux06.left b).length ≤ b.n := by
  unfold Ux06.left
  exact Nat.le_trans (List.length_filter_le _ _) (by rw [leaves_len]; exact Nat.le_refl _)
theorem left_pos (b : Ux06.Book) : ∀ k ∈ Ux06.left b, 1 ≤ k := fun k hk => leaves_pos b.n k (List.mem_filter.mp hk).1
/-- the first set, one leaf more -/
theorem F_drop {ls : List Nat} {i k : Nat} (h : ls[i]? = some k) (m s : Nat) : Fs (ls.drop i) m s = if m ≠ 0 ∧ worth k ≤ s ∧ Wn (ls.drop (i + 1)) (m - 1) (s - worth k) ≠ 0 then k :: Fs (ls.drop (i + 1)) (m - 1) (s - worth k) else Fs (ls.drop (i + 1)) m s := by
  obtain ⟨hi, e⟩ := List.getElem?_eq_some_iff.mp h
  rw [List.drop_eq_getElem_cons hi, e]
  rfl
theorem drop_at {ls : List Nat} {i k : Nat} (h : ls[i]? = some k) : ls.drop i = k :: ls.drop (i + 1) := by
  obtain ⟨hi, e⟩ := List.getElem?_eq_some_iff.mp h
  rw [List.drop_eq_getElem_cons hi, e]
theorem W_all_gt (l : List Nat) (s : Nat) : ∀ j, l.length < j → Wn l j s = 0 := fun j h => W_many l j s h
end Tl

set_option linter.all false
namespace Tl
/-! ## the hashes of the program's keys (how many leaves up to 30, a sum up to 1830) are all unlike -/
def hTurn (x : Nat) : Nat := (((x * 2147483648) % 18446744073709551616 + x / 8589934592) * 11400714785074694791) % 18446744073709551616
def hA (a : Nat) : Nat := hTurn ((2870177450012600261 + a * 14029467366897019727) % 18446744073709551616)
def hAcc (a b : Nat) : Nat := (hTurn ((hA a + b * 14029467366897019727) % 18446744073709551616) + 2870177450013471924) % 18446744073709551616
theorem inv_mul (m p q y z : Nat) (hpq : p * q % m = 1) (hy : y < m) (hz : z < m) (h : (y * p) % m = (z * p) % m) : y = z := by
  have e : ∀ x : Nat, x < m → ((x * p) % m * q) % m = x := fun x hx => by
    rw [Nat.mod_mul_mod, Nat.mul_assoc, Nat.mul_mod, hpq, Nat.mul_one, Nat.mod_mod, Nat.mod_eq_of_lt hx]
  rw [← e y hy, ← e z hz, h]
theorem wheel_gen (m p q A b : Nat) (hpq : p * q % m = 1) : ((A + b * p) % m * q) % m = ((A * q) % m + b) % m := by
  rw [Nat.mod_mul_mod, Nat.add_mul, Nat.mul_assoc b p q, Nat.add_mod (A * q) (b * (p * q)) m, Nat.mul_mod b (p * q) m, hpq, Nat.mul_one, Nat.mod_mod, Nat.add_mod (A * q % m) b m, Nat.mod_mod]
theorem rot_eq (x : Nat) : (x * 2147483648) % 18446744073709551616 = (x % 8589934592) * 2147483648 := by
  rw [show (18446744073709551616 : Nat) = 8589934592 * 2147483648 from rfl, Nat.mul_mod_mul_right]
theorem rot_inj (x y : Nat) (hx : x < 18446744073709551616) (hy : y < 18446744073709551616) (h : (x * 2147483648) % 18446744073709551616 + x / 8589934592 = (y * 2147483648) % 18446744073709551616 + y / 8589934592) : x = y := by
  rw [rot_eq, rot_eq] at h
  omega
theorem rot_lt (x : Nat) (hx : x < 18446744073709551616) : (x * 2147483648) % 18446744073709551616 + x / 8589934592 < 18446744073709551616 := by omega
theorem inv1 : 11400714785074694791 * 614540362697595703 % 18446744073709551616 = 1 := by decide +kernel
theorem inv2 : 14029467366897019727 * 839798700976720815 % 18446744073709551616 = 1 := by decide +kernel
theorem hTurn_inj (x y : Nat) (hx : x < 18446744073709551616) (hy : y < 18446744073709551616) (h : hTurn x = hTurn y) : x = y := by
  unfold hTurn at h
  exact rot_inj x y hx hy (inv_mul _ _ _ _ _ inv1 (rot_lt x hx) (rot_lt y hy) h)
theorem hTurn_lt (x : Nat) : hTurn x < 18446744073709551616 := Nat.mod_lt _ (by decide)
/-- the key's place on the wheel -/
def hU (a : Nat) : Nat := (hA a * 839798700976720815) % 18446744073709551616
theorem wheel (a b : Nat) : ((hA a + b * 14029467366897019727) % 18446744073709551616 * 839798700976720815) % 18446744073709551616 = (hU a + b) % 18446744073709551616 := by
  unfold hU
  exact wheel_gen _ _ _ _ _ inv2
def farB : Bool := (List.range 31).all fun a => (List.range 31).all fun c => a == c || (decide (1830 < (hU a + 18446744073709551616 - hU c) % 18446744073709551616) && decide ((hU a + 18446744073709551616 - hU c) % 18446744073709551616 < 18446744073709549786))
theorem far_all : farB = true := by decide +kernel
theorem far (a c : Nat) (ha : a < 31) (hc : c < 31) (h : a ≠ c) : 1830 < (hU a + 18446744073709551616 - hU c) % 18446744073709551616 ∧ (hU a + 18446744073709551616 - hU c) % 18446744073709551616 < 18446744073709549786 := by
  have q := List.all_eq_true.mp (List.all_eq_true.mp far_all a (List.mem_range.mpr ha)) c (List.mem_range.mpr hc)
  simpa [h] using q
def offB : Bool := (List.range 31).all fun a => decide (1830 < (6933820525814994759 + 18446744073709551616 - hU a) % 18446744073709551616)
theorem off_all : offB = true := by decide +kernel
theorem off (a : Nat) (ha : a < 31) : 1830 < (6933820525814994759 + 18446744073709551616 - hU a) % 18446744073709551616 := by
  have q := List.all_eq_true.mp off_all a (List.mem_range.mpr ha)
  simpa using q
theorem hU_lt (a : Nat) : hU a < 18446744073709551616 := Nat.mod_lt _ (by decide)
theorem hAcc_lt (a b : Nat) : hAcc a b < 18446744073709551616 := Nat.mod_lt _ (by decide)
theorem add_inj (u v : Nat) (hu : u < 18446744073709551616) (hv : v < 18446744073709551616) (h : (u + 2870177450013471924) % 18446744073709551616 = (v + 2870177450013471924) % 18446744073709551616) : u = v := by omega
theorem near1 (u b d : Nat) (hu : u < 18446744073709551616) (hb : b ≤ 1830) (hd : d ≤ 1830) (h : (u + b) % 18446744073709551616 = (u + d) % 18446744073709551616) : b = d := by omega
theorem near2 (u v b d : Nat) (hu : u < 18446744073709551616) (hv : v < 18446744073709551616) (hb : b ≤ 1830) (hd : d ≤ 1830) (h : (u + b) % 18446744073709551616 = (v + d) % 18446744073709551616) (f1 : 1830 < (u + 18446744073709551616 - v) % 18446744073709551616) (f2 : (u + 18446744073709551616 - v) % 18446744073709551616 < 18446744073709549786) : False := by omega
theorem near3 (u b : Nat) (hu : u < 18446744073709551616) (hb : b ≤ 1830) (h : 6933820525814994759 = (u + b) % 18446744073709551616) (f : 1830 < (6933820525814994759 + 18446744073709551616 - u) % 18446744073709551616) : False := by omega
theorem hAcc_inj (a b c d : Nat) (ha : a < 31) (hc : c < 31) (hb : b ≤ 1830) (hd : d ≤ 1830) (h : hAcc a b = hAcc c d) : a = c ∧ b = d := by
  unfold hAcc at h
  have e1 := hTurn_inj _ _ (Nat.mod_lt _ (by decide)) (Nat.mod_lt _ (by decide)) (add_inj _ _ (hTurn_lt _) (hTurn_lt _) h)
  have e2 := wheel a b
  have e3 := wheel c d
  rw [e1] at e2
  have e4 := e2.symm.trans e3
  by_cases e : a = c
  · subst e
    exact ⟨rfl, near1 _ _ _ (hU_lt a) hb hd e4⟩
  · have f := far a c ha hc e
    exact (near2 _ _ _ _ (hU_lt a) (hU_lt c) hb hd e4 f.1 f.2).elim
theorem k0 : (hTurn 15881292906973731817 + 2870177450013471924) % 18446744073709551616 = 1546275796 := by decide +kernel
theorem k1 : (15881292906973731817 * 839798700976720815) % 18446744073709551616 = 6933820525814994759 := by decide +kernel
theorem hAcc_off (a b : Nat) (ha : a < 31) (hb : b ≤ 1830) : hAcc a b ≠ 1546275796 := by
  intro h
  unfold hAcc at h
  have e1 := hTurn_inj _ 15881292906973731817 (Nat.mod_lt _ (by decide)) (by decide) (add_inj _ _ (hTurn_lt _) (hTurn_lt _) (h.trans k0.symm))
  have e2 := wheel a b
  rw [e1] at e2
  exact near3 _ _ (hU_lt a) hb (k1.symm.trans e2) (off a ha)
def hStep (acc : Nat) (h : Int) : Nat :=
    let acc : Nat := (acc + (h % ((2 ^ 64 : Nat) : Int)).toNat * 14029467366897019727) % 2 ^ 64
    let acc : Nat := (acc * 2 ^ 31) % 2 ^ 64 + acc / 2 ^ 33
    (acc * 11400714785074694791) % 2 ^ 64
def hEnd (acc n : Nat) : Int :=
  let acc : Nat := (acc + (n ^^^ (2870177450012600261 ^^^ 3527539))) % 2 ^ 64
  if acc == 2 ^ 64 - 1 then 1546275796 else if acc < 2 ^ 63 then (acc : Int) else (acc : Int) - ((2 ^ 64 : Nat) : Int)
theorem hash_two (a b : Int) : PySem.Builtin.Tuple.tupleHashOf [a, b] = hEnd (hStep (hStep 2870177450012600261 a) b) 2 := by
  delta PySem.Builtin.Tuple.tupleHashOf
  dsimp only
  rw [List.foldl_cons, List.foldl_cons, List.foldl_nil]
  delta hStep hEnd
  dsimp only
  rw [show ([a, b] : List Int).length = 2 from rfl]
theorem q1 : (2 ^ 64 : Nat) = 18446744073709551616 := by decide +kernel
theorem q2 : (2 ^ 31 : Nat) = 2147483648 := by decide +kernel
theorem q3 : (2 ^ 33 : Nat) = 8589934592 := by decide +kernel
theorem q4 : (2 ^ 63 : Nat) = 9223372036854775808 := by decide +kernel
theorem q5 : ((18446744073709551616 : Nat) : Int) = 18446744073709551616 := rfl
theorem q7 : (18446744073709551616 - 1 : Nat) = 18446744073709551615 := by decide +kernel
theorem q6 : (2 ^^^ (2870177450012600261 ^^^ 3527539) : Nat) = 2870177450013471924 := by decide +kernel
theorem hStep_eq (acc : Nat) (h : Int) : hStep acc h = hTurn ((acc + (h % 18446744073709551616).toNat * 14029467366897019727) % 18446744073709551616) := by
  delta hStep hTurn
  dsimp only
  rw [q1, q2, q3, q5]
theorem hEnd_eq (acc : Nat) : hEnd acc 2 = if (acc + 2870177450013471924) % 18446744073709551616 = 18446744073709551615 then 1546275796 else if (acc + 2870177450013471924) % 18446744073709551616 < 9223372036854775808 then (((acc + 2870177450013471924) % 18446744073709551616 : Nat) : Int) else (((acc + 2870177450013471924) % 18446744073709551616 : Nat) : Int) - 18446744073709551616 := by
  delta hEnd
  dsimp only
  rw [q1, q4, q5, q6, q7]
  generalize (acc + 2870177450013471924) % 18446744073709551616 = u
  by_cases h : u = 18446744073709551615
  · rw [if_pos h, if_pos (beq_iff_eq.mpr h)]
  · rw [if_neg h, if_neg (fun z => h (eq_of_beq z))]
theorem hash_eq (a b : Nat) (ha : a < 31) (hb : b ≤ 1830) : PySem.Builtin.Tuple.tupleHashOf [(a : Int), (b : Int)] = if hAcc a b = 18446744073709551615 then 1546275796 else if hAcc a b < 9223372036854775808 then ((hAcc a b : Nat) : Int) else ((hAcc a b : Nat) : Int) - 18446744073709551616 := by
  have e1 : (((a : Int) % (18446744073709551616 : Int)).toNat) = a := by omega
  have e2 : (((b : Int) % (18446744073709551616 : Int)).toNat) = b := by omega
  rw [hash_two, hStep_eq, e2, hStep_eq, e1, hEnd_eq]
  delta hAcc hA
  rfl
theorem hash_inj (a b c d : Nat) (ha : a < 31) (hc : c < 31) (hb : b ≤ 1830) (hd : d ≤ 1830) (h : PySem.Builtin.Tuple.tupleHashOf [(a : Int), (b : Int)] = PySem.Builtin.Tuple.tupleHashOf [(c : Int), (d : Int)]) : a = c ∧ b = d := by
  rw [hash_eq a b ha hb, hash_eq c d hc hd] at h
  refine hAcc_inj a b c d ha hc hb hd ?_
  have o1 := hAcc_off a b ha hb
  have o2 := hAcc_off c d hc hd
  have l1 := hAcc_lt a b
  have l2 := hAcc_lt c d
  generalize hAcc a b = u at *
  generalize hAcc c d = v at *
  split at h <;> split at h <;> (try split at h) <;> (try split at h) <;> omega
end Tl

set_option linter.all false
namespace Tl
open PySem
theorem hash_range (a b : Nat) (ha : a < 31) (hb : b ≤ 1830) : -(9223372036854775808 : Int) ≤ Builtin.Tuple.tupleHashOf [(a : Int), (b : Int)] ∧ Builtin.Tuple.tupleHashOf [(a : Int), (b : Int)] < 9223372036854775808 ∧ Builtin.Tuple.tupleHashOf [(a : Int), (b : Int)] ≠ -1 := by
  rw [hash_eq a b ha hb]
  have l := hAcc_lt a b
  generalize hAcc a b = u at *
  split
  · exact ⟨by omega, by omega, by omega⟩
  · split
    · exact ⟨by omega, by omega, by omega⟩
    · exact ⟨by omega, by omega, by omega⟩
theorem reduce_id (i : Int) (h1 : -(9223372036854775808 : Int) ≤ i) (h2 : i < 9223372036854775808) (h3 : i ≠ -1) : reduceHash i = i := by
  unfold reduceHash
  rw [if_pos (by simp only [Bool.and_eq_true, decide_eq_true_eq]; exact ⟨by omega, by omega⟩), if_neg (by simpa using h3)]
theorem hashInt_small (a : Nat) (h : a < 100000) : hashInt (a : Int) = (a : Int) := by
  have e : rawHash (a : Int) = (a : Int) := by
    have q : ((a : Int).natAbs % (2 ^ 61 - 1 : Nat)) = a := by omega
    simp only [rawHash, q]
    split
    · omega
    · split <;> simp_all <;> omega
  unfold hashInt
  rw [e, if_neg (by simp; try omega)]
theorem key_hash_inj (a b c d : Nat) (ha : a < 31) (hc : c < 31) (hb : b ≤ 1830) (hd : d ≤ 1830)
    (h : reduceHash (Builtin.Tuple.tupleHashOf [hashInt (a : Int), hashInt (b : Int)]) = reduceHash (Builtin.Tuple.tupleHashOf [hashInt (c : Int), hashInt (d : Int)])) : a = c ∧ b = d := by
  rw [hashInt_small a (by omega), hashInt_small b (by omega), hashInt_small c (by omega), hashInt_small d (by omega)] at h
  obtain ⟨x1, x2, x3⟩ := hash_range a b ha hb
  obtain ⟨y1, y2, y3⟩ := hash_range c d hc hd
  rw [reduce_id _ x1 x2 x3, reduce_id _ y1 y2 y3] at h
  exact hash_inj a b c d ha hc hb hd h
end Tl

set_option Elab.async false
set_option linter.all false
set_option maxRecDepth 100000
set_option maxHeartbeats 4000000
/-! Rules that the hand layer lacks: list.remove, range as a value, list(range(..)), module constants, calls by one fact a def. -/
namespace L2
open PySem PySem.Spec PyProof.Rows
/-! ### lists of ints -/
theorem erase_ix : ∀ (ns : List Int) (i : Int), i ∈ ns → ∃ j : Nat, ns[j]? = some i ∧ (∀ (m : Nat) (a : Int), m < j → ns[m]? = some a → a ≠ i) ∧ ns.erase i = ns.eraseIdx j
  | [], i, h => nomatch h
  | x :: r, i, h => by
    by_cases e : x = i
    · subst e
      exact ⟨0, rfl, fun m a hm => absurd hm (Nat.not_lt_zero _), by rw [List.erase_cons_head]; rfl⟩
    · have h' : i ∈ r := by
        rcases List.mem_cons.mp h with q | q
        · exact absurd q.symm e
        · exact q
      obtain ⟨j, h1, h2, h3⟩ := erase_ix r i h'
      refine ⟨j + 1, h1, fun m a hm ha => ?_, ?_⟩
      · cases m with
        | zero => exact fun q => e ((Option.some.inj ha).trans q)
        | succ m => exact h2 m a (by omega) ha
      · rw [List.erase_cons_tail (by simpa using e), h3]
        rfl
theorem map_eraseIdx_own {α β : Type} (f : α → β) : ∀ (l : List α) (j : Nat), (l.eraseIdx j).map f = (l.map f).eraseIdx j
  | [], _ => rfl
  | _ :: _, 0 => rfl
  | x :: r, j + 1 => by
    show f x :: (r.eraseIdx j).map f = f x :: (r.map f).eraseIdx j
    rw [map_eraseIdx_own f r j]
theorem Vals.int_at {ns : List Int} {us : List Value} (r : Vals (ns.map V.int) us) {j : Nat} {u : Value} (h : us[j]? = some u) : ∃ a t, ns[j]? = some a ∧ u = Value.int a t := by
  have hl := r.length
  rw [List.length_map] at hl
  obtain ⟨hj, _⟩ := List.getElem?_eq_some_iff.mp h
  have hj' : j < ns.length := by omega
  have e : (ns.map V.int)[j]? = some (V.int ns[j]) := by rw [List.getElem?_map, List.getElem?_eq_getElem hj']; rfl
  obtain ⟨u', hu, t, ht⟩ := r.get e
  rw [h] at hu
  cases hu
  exact ⟨ns[j], t, List.getElem?_eq_getElem hj', ht⟩
theorem Vals.of_at : ∀ {xs : List V} {us : List Value}, xs.length = us.length → (∀ (j : Nat) (u : Value), us[j]? = some u → ∃ x, xs[j]? = some x ∧ RelV x u) → Vals xs us
  | [], [], _, _ => .nil
  | [], _ :: _, h, _ => by simp at h
  | _ :: _, [], h, _ => by simp at h
  | x :: xs, u :: us, h, k => by
    obtain ⟨x', e, r⟩ := k 0 u rfl
    cases e
    exact .cons r (Vals.of_at (by simpa using h) fun j v hv => k (j + 1) v hv)
def intIs (i : Int) : Value → Bool
  | .int a _ => a == i
  | _ => false
section
variable {X : Cx}
/-- xs.remove(i), ints, i among them -/
def rRemove : V → List V → Hp → VK → Prop := fun x vs H Q => ∃ (l : Addr) (ns : List Int) (i : Int), x = .ref l ∧ vs = [.int i] ∧ H l = some (.lst (ns.map V.int)) ∧ i ∈ ns ∧ Q .non (upd H l (.lst ((ns.erase i).map V.int)))
theorem mt_remove : MtM X "list.remove" rRemove := by
  intro pins s σ H x vs v us Q I rx rv h
  obtain ⟨l, ns, i, rfl, rfl, hH, hi, q⟩ := h
  cases rx
  obtain ⟨u, rfl, ru⟩ := rv.one
  obtain ⟨t, rfl⟩ := ru
  obtain ⟨z, its, n, r, hl, e⟩ := I.lstM hH
  obtain ⟨j, h1, h2, h3⟩ := erase_ix ns i hi
  have hjn : j < ns.length := (List.getElem?_eq_some_iff.mp h1).1
  have hls : ns.length = its.length := by rw [List.length_map] at hl; exact hl
  have hj : j < its.toArray.size := by rw [List.size_toArray]; omega
  have at_ : ∀ (m : Nat) (hm : m < its.toArray.size), ∃ a t, ns[m]? = some a ∧ its.toArray[m] = Value.int a t := fun m hm => by
    have hm' : m < its.length := by rw [List.size_toArray] at hm; exact hm
    obtain ⟨a, t', e1, e2⟩ := r.int_at (List.getElem?_eq_getElem hm')
    exact ⟨a, t', e1, by simpa using e2⟩
  refine call_meets F.slot_list_remove ⟨_, e, rfl⟩ F.entry_list_remove (F.args_list_remove_2 _ _) (MeetsSeq.list_remove l its.toArray n (.int i t) (intIs i) ?_ j hj ?_ ?_ (by rw [List.size_toArray]; omega)) ⟨e, ?_⟩
  · intro y hy
    obtain ⟨m, hm, rfl⟩ := Array.mem_iff_getElem.mp hy
    obtain ⟨a, t', e1, e2⟩ := at_ m hm
    rw [e2]
    exact MeetsSeq.EqGives.int a i t' t
  · obtain ⟨a, t', e1, e2⟩ := at_ j hj
    rw [e2]
    rw [h1] at e1
    cases e1
    show (i == i) = true
    exact beq_self_eq_true i
  · intro m hm hmj
    obtain ⟨a, t', e1, e2⟩ := at_ m hm
    rw [e2]
    show (a == i) = false
    exact beq_eq_false_iff_ne.mpr (h2 m a hmj e1)
  · refine ⟨.non, _, I.lset (its' := its.eraseIdx j) hH e ?_ ?_ ?_, rfl, q⟩
    · show its.toArray.eraseIdxIfInBounds j = (its.eraseIdx j).toArray
      rw [List.eraseIdxIfInBounds_toArray]
    · rw [h3, map_eraseIdx_own]
      exact r.eraseIdx j
    · rw [List.length_map, h3]
      have := len_erase ns j
      rw [List.length_map] at z
      omega
/-! ### range as a value, list(range(..)) -/
def tRng2 (ta : TA) : TE := fun σ H Q => ta σ H fun vs H1 => ∃ i j : Int, vs = [.int i, .int j] ∧ ∀ p, H1 p = none → Q (.ref p) (upd H1 p (.rng i j))
theorem pe_range2 {a b : Expr} {ta : TA} {p pos : Pos} (hg : Gl X "range") (hm : X.mg "range" = none) (ha : PA X [a, b] ta) (hs : starEach [a, b] X.env = [(false, eval a X.env), (false, eval b X.env)] := by rfl) (hs2 : starEach [b] X.env = [(false, eval b X.env)] := by rfl) :
    PE X (.Call (.Name "range" p) [a, b] [] pos) (tRng2 ta) := by
  intro pins s σ H Q I h
  refine Call_ (ld_blt I hg hm boot_range (PyProof.Rows.callWith_type1 (thn (ha pos pins s σ H _ I h) fun us s1 ⟨vs, H1, I1, r1, q1⟩ => ?_) (by rw [hs, hs2]) (by rw [hs2]; rfl)))
  obtain ⟨i, j, e, q⟩ := q1
  subst e
  obtain ⟨t, u, e⟩ := r1.int2
  subst e
  exact call_range_2 ⟨.ref s1.heap.objs.size, _, I1.laid (o := .rng i j) (fun b o e => Heap.get?_push_of_some _ e) (Nat.le_refl _) ⟨_, _, _, Heap.get?_push_size _ rfl⟩, rfl, q _ I1.fresh⟩
def tRng1 (ta : TA) : TE := fun σ H Q => ta σ H fun vs H1 => ∃ j : Int, vs = [.int j] ∧ ∀ p, H1 p = none → Q (.ref p) (upd H1 p (.rng 0 j))
theorem pe_range1 {a : Expr} {ta : TA} {p pos : Pos} (hg : Gl X "range") (hm : X.mg "range" = none) (ha : PA X [a] ta) (hs : starEach [a] X.env = [(false, eval a X.env)] := by rfl) :
    PE X (.Call (.Name "range" p) [a] [] pos) (tRng1 ta) := by
  intro pins s σ H Q I h
  refine Call_ (ld_blt I hg hm boot_range (PyProof.Rows.callWith_type1 (thn (ha pos pins s σ H _ I h) fun us s1 ⟨vs, H1, I1, r1, q1⟩ => ?_) hs rfl))
  obtain ⟨j, e, q⟩ := q1
  subst e
  obtain ⟨u, rfl, t, rfl⟩ := r1.one
  exact call_range_1 ⟨.ref s1.heap.objs.size, _, I1.laid (o := .rng 0 j) (fun b o e => Heap.get?_push_of_some _ e) (Nat.le_refl _) ⟨_, _, _, Heap.get?_push_size _ rfl⟩, rfl, q _ I1.fresh⟩
/-- lo, lo + 1, .. , n of them -/
def upFrom (lo : Int) (n : Nat) : List Int := (List.range n).map fun (k : Nat) => lo + (k : Int)
theorem call_list_rng (hc : X.calm = true) : CallR X (.type "list") (fun xs H Q => ∃ (p : Addr) (lo hi : Int), xs = [.ref p] ∧ H p = some (.rng lo hi) ∧ (-(2 ^ 62) ≤ lo ∧ lo < 2 ^ 62 ∧ -(2 ^ 62) ≤ hi ∧ hi < 2 ^ 62) ∧ (hi - lo).toNat ≤ 1048576 ∧
    ∀ l, H l = none → Q (.ref l) (upd H l (.lst ((upFrom lo (hi - lo).toNat).map V.int)))) := by
  intro pins s σ H xs us Q I r h
  obtain ⟨p, lo, hi, rfl, hp, ⟨b1, b2, b3, b4⟩, hn, q⟩ := h
  obtain ⟨u, rfl, ru⟩ := r.one
  cases ru
  obtain ⟨t, u, v, hr⟩ := I.hok p _ hp
  refine call_list_range (I.ok.hd hc) (show IsRange s.heap p lo hi 1 t u v from hr) (small_one b1 b2 b3 b4) (n := (hi - lo).toNat) (by rw [rangeSize_one]; split <;> omega) (by omega) fun h' tk acc c hk hS hacc => ?_
  refine ⟨.ref s.heap.objs.size, _, I.laid (t' := tk) (o := .lst ((upFrom lo (hi - lo).toNat).map V.int)) hk (Nat.le_refl _) ⟨?_, acc.toList, c, ?_, by simpa using hS⟩, rfl, q _ I.fresh⟩
  · rw [List.length_map]
    unfold upFrom
    rw [List.length_map, List.length_range, sizeLine_eq]
    omega
  · refine Vals.of_at ?_ fun j w hw => ?_
    · rw [List.length_map]
      unfold upFrom
      rw [List.length_map, List.length_range, Array.length_toList, hacc.1]
    · have hw' : acc[j]? = some w := by simpa using hw
      obtain ⟨tk', e⟩ := hacc.2 j w hw'
      have hj : j < (hi - lo).toNat := by
        have := (Array.getElem?_eq_some_iff.mp hw').1
        rw [hacc.1] at this
        exact this
      refine ⟨.int (lo + j), ?_, tk', by rw [e, Int.mul_one]⟩
      unfold upFrom
      rw [List.getElem?_map, List.getElem?_map, List.getElem?_range hj]
      rfl
/-! ### module constants, defs and methods by one fact each -/
/-- a name of the module that holds v -/
structure Has (mg : Str → Option Value) (x : Str) (v : V) : Prop where
  ex : ∃ u, mg x = some u ∧ RelV v u
theorem pe_gl {x : Str} {v : V} {pos : Pos} (hg : Gl X x) (h : Has X.mg x v) (hd : (x == ("__debug__" : Str)) = false := by decide) : PE X (.Name x pos) (tC v) := by
  obtain ⟨u, hm, r⟩ := h.ex
  exact pe_glob hg hm r hd
end
structure FnAt (P : Program) (w : World) (K : PySem.W.Frag) (mg : Str → Option Value) (base : Heap) (x : Str) (k : Nat) (ps : List Str) (sp : Sp) : Prop where
  ex : ∃ f fd, FnOk P w K mg base CX0 k f fd ps sp ∧ mg x = some (.ref f) ∧ PySem.W.keepIn K (.ref f) = true ∧ Binds K fd ps []
structure MtAt (P : Program) (w : World) (K : PySem.W.Frag) (mg : Str → Option Value) (base : Heap) (C : Addr) (m : Str) (k : Nat) (ps : List Str) (sp : Sp) : Prop where
  cl : Cls K C
  ex : ∃ f fd, FnOk P w K mg base CX0 k f fd ps sp ∧ Meth K C m f ∧ Binds K fd ps []
section
variable {X : Cx} {k : Nat} {C : Addr} {ps : List Str} {sp : Sp} {x m : Str} {p pos apos : Pos} {e o : Expr} {es : List Expr} {ta : TE} {t : TA}
theorem pe_fn (F : FnAt X.prog X.w X.K X.mg X.base x k ps sp) (hr : Room k X.A) (hg : Gl X x) (ha : PA X (e :: es) t) (hdb : (x == ("__debug__" : Str)) = false := by decide) (he : starEach (e :: es) X.env = (false, eval e X.env) :: starEach es X.env := by rfl)
    (hpl : (backTo pos (starEach es X.env)).any (·.1) = false := by rfl) : PE X (.Call (.Name x p) (e :: es) [] pos) (tCall sp [] E0 t) := by
  obtain ⟨f, fd, G, hm, hk, hb⟩ := F.ex
  exact pe_call G hr hg hm hk hb .nil pass0 ha hdb he hpl
theorem pe_mt {pl : Sem Bool} (M : MtAt X.prog X.w X.K X.mg X.base C m k ps sp) (hr : Room k X.A) (he : PE X o ta) (ha : PA X (e :: es) t)
    (hst : starEach (e :: es) X.env = (false, eval e X.env) :: starEach es X.env := by rfl) (hpl : (backTo pos (starEach es X.env)).any (·.1) = false := by rfl)
    (ht : eval (.Call (.Attribute o m apos) (e :: es) [] pos) X.env = (do
      let ov ← eval o X.env
      standAt apos.atName
      let (f, first) ← holding [ov] (getMethod ov m pl)
      callWith pos f first (backTo pos (starEach (e :: es) X.env)) (backToKw pos (keywordEach [] X.env))) := by rfl) :
    PE X (.Call (.Attribute o m apos) (e :: es) [] pos) (tMeth C m sp [] E0 ta t) := by
  obtain ⟨f, fd, G, hm, hb⟩ := M.ex
  exact pe_meth he M.cl hm G hr hb .nil pass0 ha hst hpl ht
theorem pe_mt0 {pl : Sem Bool} (M : MtAt X.prog X.w X.K X.mg X.base C m k ps sp) (hr : Room k X.A) (he : PE X o ta)
    (ht : eval (.Call (.Attribute o m apos) [] [] pos) X.env = (do
      let ov ← eval o X.env
      standAt apos.atName
      let (f, first) ← holding [ov] (getMethod ov m pl)
      callWith pos f first (backTo pos (starEach [] X.env)) (backToKw pos (keywordEach [] X.env))) := by rfl) :
    PE X (.Call (.Attribute o m apos) [] [] pos) (tMeth C m sp [] E0 ta tNil) := by
  obtain ⟨f, fd, G, hm, hb⟩ := M.ex
  exact pe_meth0 he M.cl hm G hr hb .nil pass0 ht
end
/-! ### heaps: a new object, one changed -/
theorem Same.new {H : Hp} {l : Addr} {o : HO} (h : H l = none) : Same H (upd H l o) := fun b u e => by
  rw [upd_ne (ne_of_none e h)]
  exact e
end L2

set_option Elab.async false
set_option linter.all false
set_option maxRecDepth 100000
set_option maxHeartbeats 4000000
/-! Rules that the hand layer lacks, second part: loops over reversed(list), a dict's tuple keys, enumerate(list); {(a, b): c}; dict(d) with tuple keys. -/
namespace L2
open PySem PySem.Spec PyProof.Rows
theorem for_rev {K : PySem.W.Frag} {a : Addr} {xs : List V} {g : TG} {tb : TS} {D : Ends} {σ : St} {H : Hp} (Pv : Nat → St → Hp → Prop) (h0 : Pv 0 σ H) (hl : ∀ i σ H, i ≤ xs.length → Pv i σ H → SqL K H a xs)
    (hs : ∀ i x σ H, i < xs.length → xs[xs.length - 1 - i]? = some x → Pv i σ H → g x σ H fun σ2 H2 => tb { D with nx := Pv (i + 1), ct := Pv (i + 1), bk := D.nx } σ2 H2) (hd : ∀ σ H, Pv xs.length σ H → D.nx σ H) :
    ∃ W : Nat → Nat → St → Hp → Prop, (∃ m, W 0 m σ H) ∧ ∀ i m σ H, W i m σ H →
      ((Itv K a xs.length).stop i H ∧ D.nx σ H) ∨ ((Itv K a xs.length).go i H ∧ ∃ N : St → Hp → Prop, (∀ σ' H', N σ' H' → ∃ m', m' < m ∧ W (i + 1) m' σ' H') ∧ ∀ x H', (Itv K a xs.length).yld i H x H' → g x σ H' fun σ2 H2 => tb { D with nx := N, ct := N, bk := D.nx } σ2 H2) := by
  refine ⟨fun i m σ H => m = xs.length - i ∧ i ≤ xs.length ∧ Pv i σ H, ⟨xs.length, by simp, Nat.zero_le _, h0⟩, ?_⟩
  rintro i m σ H ⟨rfl, hi, p⟩
  have q := hl i σ H hi p
  by_cases hlt : i < xs.length
  · have hj : xs.length - 1 - i < xs.length := by omega
    refine .inr ⟨⟨hlt, xs, xs[xs.length - 1 - i], q, List.getElem?_eq_getElem hj⟩, Pv (i + 1), fun σ' H' p' => ⟨xs.length - (i + 1), by omega, rfl, hlt, p'⟩, fun x H' y => ?_⟩
    obtain ⟨e, y⟩ := y
    subst e
    exact hs i x σ _ hlt (y xs q) p
  · have e : i = xs.length := by omega
    subst e
    exact .inl ⟨Nat.le_refl _, hd σ H p⟩
theorem for_keysT {d : Addr} {o : Obj} {kvs : List (List Key × V)} {g : TG} {tb : TS} {D : Ends} {σ : St} {H : Hp} (Pv : Nat → St → Hp → Prop) (h0 : Pv 0 σ H) (hl : ∀ i σ H, i ≤ kvs.length → Pv i σ H → H d = some (.frz o (.dT kvs)))
    (hs : ∀ i k v q σ H, kvs[i]? = some (k, v) → H q = some (.tup (k.map kV)) → Pv i σ H → g (.ref q) σ H fun σ2 H2 => tb { D with nx := Pv (i + 1), ct := Pv (i + 1), bk := D.nx } σ2 H2) (hd : ∀ σ H, Pv kvs.length σ H → D.nx σ H) :
    ∃ W : Nat → Nat → St → Hp → Prop, (∃ m, W 0 m σ H) ∧ ∀ i m σ H, W i m σ H →
      ((Itkt d o kvs).stop i H ∧ D.nx σ H) ∨ ((Itkt d o kvs).go i H ∧ ∃ N : St → Hp → Prop, (∀ σ' H', N σ' H' → ∃ m', m' < m ∧ W (i + 1) m' σ' H') ∧ ∀ x H', (Itkt d o kvs).yld i H x H' → g x σ H' fun σ2 H2 => tb { D with nx := N, ct := N, bk := D.nx } σ2 H2) := by
  refine ⟨fun i m σ H => m = kvs.length - i ∧ i ≤ kvs.length ∧ Pv i σ H, ⟨kvs.length, by simp, Nat.zero_le _, h0⟩, ?_⟩
  rintro i m σ H ⟨rfl, hi, p⟩
  have q := hl i σ H hi p
  by_cases hlt : i < kvs.length
  · refine .inr ⟨⟨q, hlt⟩, Pv (i + 1), fun σ' H' p' => ⟨kvs.length - (i + 1), by omega, rfl, hlt, p'⟩, fun x H' y => ?_⟩
    obtain ⟨e, k, v, r, h1, h2, h3⟩ := y
    subst e h2
    exact hs i k v r σ _ h1 h3 p
  · have e : i = kvs.length := by omega
    subst e
    exact .inl ⟨⟨q, Nat.le_refl _⟩, hd σ H p⟩
theorem for_enum {K : PySem.W.Frag} {a : Addr} {xs : List V} {g : TG} {tb : TS} {D : Ends} {σ : St} {H : Hp} (Pv : Nat → St → Hp → Prop) (h0 : Pv 0 σ H) (hl : ∀ i σ H, i ≤ xs.length → Pv i σ H → SqL K H a xs)
    (hs : ∀ i x T σ H, xs[i]? = some x → H T = none → Pv i σ H → g (.ref T) σ (upd H T (.tup [.int (i : Nat), x])) fun σ2 H2 => tb { D with nx := Pv (i + 1), ct := Pv (i + 1), bk := D.nx } σ2 H2) (hd : ∀ σ H, Pv xs.length σ H → D.nx σ H) :
    ∃ W : Nat → Nat → St → Hp → Prop, (∃ m, W 0 m σ H) ∧ ∀ i m σ H, W i m σ H →
      ((Ite K a).stop i H ∧ D.nx σ H) ∨ ((Ite K a).go i H ∧ ∃ N : St → Hp → Prop, (∀ σ' H', N σ' H' → ∃ m', m' < m ∧ W (i + 1) m' σ' H') ∧ ∀ x H', (Ite K a).yld i H x H' → g x σ H' fun σ2 H2 => tb { D with nx := N, ct := N, bk := D.nx } σ2 H2) := by
  refine ⟨fun i m σ H => m = xs.length - i ∧ i ≤ xs.length ∧ Pv i σ H, ⟨xs.length, by simp, Nat.zero_le _, h0⟩, ?_⟩
  rintro i m σ H ⟨rfl, hi, p⟩
  have q := hl i σ H hi p
  by_cases hlt : i < xs.length
  · refine .inr ⟨⟨xs, xs[i], q, by simp [hlt]⟩, Pv (i + 1), fun σ' H' p' => ⟨xs.length - (i + 1), by omega, rfl, hlt, p'⟩, fun x H' y => ?_⟩
    obtain ⟨T, v, h1, h2, h3, h4⟩ := y
    subst h1 h3
    exact hs i v T σ _ (h4 xs q) h2 p
  · have e : i = xs.length := by omega
    subst e
    exact .inl ⟨⟨xs, q, Nat.le_refl _⟩, hd σ H p⟩
/-! ### {(a, b): c} -/
def DispE (p : Addr) (x y : V) (H2 : Hp) (Q : VK) : Prop := H2 p = some (.dT []) ∧ ∃ (b : Addr) (ks : List Key), x = .ref b ∧ H2 b = some (.tup (ks.map kV)) ∧ Q (.ref p) (upd H2 p (.dT [(ks, y)]))
def tDispT (tk tv : TE) : TE := fun σ H Q => ∀ p, H p = none → tk σ (upd H p (.dT [])) fun x H1 => tv σ H1 fun y H2 => DispE p x y H2 Q
def dispQ (p : Addr) (Q : VK) : List (V × V) → Hp → Prop
  | [(x, y)], H2 => DispE p x y H2 Q
  | _, _ => False
theorem pe_dispT {X : Cx} {pos : Pos} {k v : Expr} {tk tv : TE} (hu : X.A.units + 1 < cLine) (hk : PE X k tk) (hv : PE X v tv) : PE X (.Dict [some k] [v] pos) (tDispT tk tv) := by
  intro pins s σ H Q I q
  have hn := I.hok.fresh (Nat.le_refl s.heap.objs.size)
  have I1 := I.laid (a := s.heap.objs.size) (o := .dT []) (h' := s.heap.push { cls := .type "dict", data := .dict #[] }) (t' := s.toks) (fun _ _ q => Heap.get?_push_of_some _ q) (Nat.le_refl _) (dt_empty s.heap I.big)
  have PP : PPs X pos [some k] [v] [(tk, tv)] := pps_cons hk hv pps_nil
  refine wpAny_Dict_any rfl rfl (by simp) (show 1 ≤ 15 by decide) (thn (PP pins _ σ _ (dispQ s.heap.objs.size Q) I1 (q _ hn)) fun ws s2 ⟨ps, H2, I2, rel, dq⟩ => ?_)
  cases rel with
  | nil => exact dq.elim
  | @cons p1 w1 ps' ws' r1 r2 =>
    cases r2 with
    | cons _ _ => exact dq.elim
    | nil =>
      obtain ⟨x, y⟩ := p1
      obtain ⟨u1, u2⟩ := w1
      obtain ⟨e, b, ks, ex, eb, q2⟩ := dq
      obtain ⟨rx, ry⟩ := r1
      subst ex
      cases (show u1 = Value.ref b from rx)
      obtain ⟨z, hd, xs, rel', dd⟩ := dt_of I2.hok e
      cases rel'
      unfold storeAll
      rw [List.forIn_cons]
      refine wpAny_bind (wpAny_bind (wpAny_dictSet_heap (hsz := Nat.zero_le _) (knd := tupleKind (mixKind X.prog X.w)) (Nat.lt_of_succ_lt hu) (key_of I2.hok eb) dd fun h' dd' hs => wpAny_pure ?_))
      show wpAny _ _ (forIn [] PUnit.unit _) _ _ _
      rw [List.forIn_nil]
      refine wpAny_pure ⟨.ref s.heap.objs.size, _, ?_, rfl, q2⟩
      obtain ⟨q, es, ep, hq, h2, h3, h4, _, h5⟩ := dd'
      refine d_write I2 (by rw [e]; exact True.intro) hs ⟨q, hq⟩ ⟨(by show 1 ≤ sizeLine; decide), hd, _, (KT.put (xs := []) .nil ks eb ry).keeps fun c ys ec => ?_, q, es, ep, hq, h2, h3, h4, h5⟩
      rw [upd_ne (ne_of ec e (fun z => nomatch z))]
      exact ec
/-! ### dict(d): a copy, with tuple keys whose hashes are all unlike -/
theorem filter_one {α : Type} (f : α → Int) (c : Int) : ∀ l : List α, (l.map f).Nodup → (l.filter fun x => f x == c).length ≤ 1
  | [], _ => Nat.zero_le _
  | x :: r, h => by
    rw [List.map_cons, List.nodup_cons] at h
    rw [List.filter_cons]
    by_cases e : (f x == c) = true
    · rw [if_pos e]
      have e' : f x = c := eq_of_beq e
      have z : (r.filter fun x => f x == c) = [] := by
        rw [List.filter_eq_nil_iff]
        intro y hy q
        exact h.1 (List.mem_map.mpr ⟨y, hy, (eq_of_beq q).trans e'.symm⟩)
      rw [z]
      exact Nat.le_refl _
    · rw [if_neg e]
      exact filter_one f c r h.2
section
variable {prog : Program} {w : World} {A : Around} {E : Value → Shared → Prop} {s : Shared}
theorem quiet_tuple {a : Addr} {Q : Bool → Shared → Prop} (hT : s.TypeIs (.ref a) "tuple") (h : Q false s) : wpAny (model prog w) A (Builtin.Dict.quietEq (.ref a)) Q E s := by
  show wpAny _ _ (specialOf (.ref a) "__eq__" >>= fun x => pure (x == some (.builtin "object.__eq__"))) _ _ s
  refine wpAny_bind (wpAny_specialOf hT F.slot_tuple_eq.lookup ?_)
  exact wpAny_pure h
theorem entriesT {id : String} {d : Addr} {o : Obj} {es : Array DictEntry} {ep : Nat} {Q : Array DictEntry → Shared → Prop} (ho : s.heap.get? d = some o) (hd : o.data = .dict es ep) (hk : ∀ e ∈ es, ∃ a, e.key = .ref a ∧ s.TypeIs (.ref a) "tuple")
    (hn : (es.toList.map (·.hash)).Nodup) (h : Q es s) : wpAny (model prog w) A (Builtin.Dict.entriesForEmpty id d) Q E s := by
  unfold Builtin.Dict.entriesForEmpty
  refine wpAny_bind (wpAny_dictEntries ho hd ?_)
  refine wpAny_bind ?_
  rw [← Array.forIn_toList]
  refine wpAny_forIn_list _ (fun rest _ s' => s' = s ∧ ∀ e ∈ rest, e ∈ es) _ ?_ ?_ _ _ ⟨rfl, fun e he => Array.mem_toList_iff.mp he⟩
  · rintro e rest r s' ⟨rfl, hall⟩
    obtain ⟨a, ea, hT⟩ := hk e (hall e List.mem_cons_self)
    rw [ea]
    refine wpAny_bind (quiet_tuple hT ?_)
    have hc : ¬ (es.filter (fun x => x.hash == e.hash)).size > 1 := by
      have q := filter_one (fun x : DictEntry => x.hash) e.hash es.toList hn
      rw [← Array.length_toList, Array.toList_filter]
      omega
    simp only [Bool.not_false, if_true]
    rw [if_neg hc]
    exact wpAny_pure ⟨rfl, fun e he => hall e (List.mem_cons_of_mem _ he)⟩
  · rintro r s' ⟨rfl, _⟩
    exact wpAny_pure h
theorem mergeT {nm : String} {d o : Addr} {xs : List (List Key × Addr × Value)} {Q : Unit → Shared → Prop} (hdo : d ≠ o) (hoS : (o == sysModules) = false)
    (hd : s.heap.DictOfH (tupleKind (mixKind prog w)) d []) (ho : s.heap.DictOfH (tupleKind (mixKind prog w)) o xs) (h0 : xs ≠ []) (hh : (xs.map fun x => (tupleKind (mixKind prog w)).hash x.1).Nodup) (hsz : xs.length ≤ sizeLine)
    (hQ : ∀ h', (∃ o' es ep, h'.get? d = some o' ∧ o'.ExactDict ∧ o'.data = .dict es ep ∧ es.toList = xs.map (entryOfKey (tupleKind (mixKind prog w)))) → Heap.SameBut d s.heap h' → Q () { s with heap := h' }) :
    wpAny (model prog w) A (Builtin.Dict.mergeDict nm d o) Q E s := by
  obtain ⟨od, esd, epd, hod, hcd, hdd, hed, _, _⟩ := id hd
  obtain ⟨oo, eso, epo, hoo, hco, hdo', heo, hko, hno⟩ := id ho
  have e0 : esd = #[] := by
    rw [List.map_nil] at hed
    exact Array.toList_eq_nil_iff.mp hed
  subst e0
  have hsz' : eso.size = xs.length := size_of_entries heo
  have hpos : 0 < eso.size := by rw [hsz']; exact List.length_pos_iff.mpr h0
  unfold Builtin.Dict.mergeDict
  rw [if_neg (by simpa using hdo)]
  unfold Builtin.Dict.showsAll
  rw [if_neg (by rw [hoS]; exact Bool.false_ne_true)]
  refine wpAny_bind (wpAny_pure ?_)
  refine wpAny_bind (wpAny_dictEntries hoo hdo' ?_)
  have few : (decide (eso.size ≤ 8) && eso.all fun e => (keyPart e.key).isSome) = false := by
    have q : (eso.all fun e => (keyPart e.key).isSome) = false := by
      rw [← Array.all_toList, heo]
      cases xs with
      | nil => exact absurd rfl h0
      | cons x r => rfl
    rw [q, Bool.and_false]
  dsimp only
  rw [few]
  simp only [Bool.not_false, if_true]
  refine wpAny_bind (wpAny_dictEntries hod hdd ?_)
  rw [if_pos (show (#[] : Array DictEntry).isEmpty = true from rfl)]
  refine wpAny_bind (entriesT hoo hdo' (fun e he => ?_) ?_ ?_)
  · have he' : e ∈ eso.toList := Array.mem_toList_iff.mpr he
    rw [heo] at he'
    obtain ⟨x, hx, rfl⟩ := List.mem_map.mp he'
    exact ⟨x.2.1, rfl, IsTupleKey.typeIs (hko x hx)⟩
  · rw [heo, List.map_map]
    exact hh
  · have hne : (!eso.isEmpty) = true := by
      cases q : eso.isEmpty with
      | false => rfl
      | true =>
        have := Array.isEmpty_iff.mp q
        rw [this] at hpos
        exact absurd hpos (by decide)
    rw [if_pos hne]
    have hto : eso.size ≤ sizeLine + 1 := by omega
    exact wpAny_bind (wpAny_updateDictKeysTo hod hdd (wpAny_pure (hQ _ ⟨_, _, epd + 1, Heap.get?_update_self _ hod (Obj.isFreed_of_dict (Obj.data_mapDictKeys hdd _)), hcd.mapDictKeys _, Obj.data_mapDictKeys hdd _, heo⟩ (Heap.SameBut.update ..))) hto)
theorem dictT {o : Addr} {xs : List (List Key × Addr × Value)} {Q : Value → Shared → Prop} (hoS : (o == sysModules) = false) (ho : s.heap.DictOfH (tupleKind (mixKind prog w)) o xs) (h0 : xs ≠ []) (hh : (xs.map fun x => (tupleKind (mixKind prog w)).hash x.1).Nodup) (hsz : xs.length ≤ sizeLine)
    (h : ∀ h', (∃ o' es ep, h'.get? s.heap.objs.size = some o' ∧ o'.ExactDict ∧ o'.data = .dict es ep ∧ es.toList = xs.map (entryOfKey (tupleKind (mixKind prog w)))) → Heap.SameBut s.heap.objs.size (s.heap.push { cls := .type "dict", data := .dict #[] }) h' → Q (.ref s.heap.objs.size) { s with heap := h' }) :
    wpAny (model prog w) A (call (.type "dict") [.ref o]) Q E s := by
  refine callType_codes (Q₁ := fun obj s₁ => obj = .ref s.heap.objs.size ∧ s₁ = { s with heap := s.heap.push { cls := .type "dict", data := .dict #[] } }) F.kt_called_dict (F.kt_typeCall_dict_1 _) F.entry_dict_init (kt_code_dict_new _ ⟨rfl, rfl⟩) ?_
  rintro obj s₁ ⟨rfl, rfl⟩
  have hnew : (s.heap.push { cls := .type "dict", data := .dict #[] }).DictOfH (tupleKind (mixKind prog w)) s.heap.objs.size [] := Heap.DictOfH.new s.heap
  obtain ⟨oo, eso, epo, hoo, hco, hdo', heo, hko, hno⟩ := id ho
  have hoo1 : (s.heap.push { cls := .type "dict", data := .dict #[] }).get? o = some oo := Heap.get?_push_of_some _ hoo
  have ho' : (s.heap.push { cls := .type "dict", data := .dict #[] }).DictOfH (tupleKind (mixKind prog w)) o xs := ⟨oo, eso, epo, hoo1, hco, hdo', heo, fun x hx => by
    obtain ⟨ob, items, n, h1, h2, h3, h4⟩ := hko x hx
    exact ⟨ob, items, n, Heap.get?_push_of_some _ h1, h2, h3, h4⟩, hno⟩
  have hdo : s.heap.objs.size ≠ o := fun e => absurd (Heap.lt_size hoo) (by rw [e]; exact Nat.lt_irrefl _)
  refine ⟨hnew.typeIs, F.args_dict_init_2 _ _, ?_⟩
  unfold Builtin.«dict.__init__»
  refine wpAny_bind ?_
  unfold Builtin.Dict.selfAndRest
  refine wpAny_bind (wpAny_notOrdered_dict hnew.typeIs ?_)
  show wpAny _ _ (pure (s.heap.objs.size, [Value.ref o])) _ _ _
  refine wpAny_pure ?_
  show wpAny _ _ (Builtin.Dict.updateFrom "dict.__init__" s.heap.objs.size (.ref o) [] .none) _ _ _
  unfold Builtin.Dict.updateFrom
  refine wpAny_bind (wpAny_typeOf ho'.typeIs ?_)
  rw [if_neg (by decide)]
  refine wpAny_bind ?_
  unfold Builtin.Dict.merge
  refine wpAny_bind ?_
  unfold Builtin.Dict.readDirectly
  refine wpAny_bind (wpAny_isInstance ho'.typeIs isSubtype_dict_dict ?_)
  simp only [Bool.not_true, Bool.false_eq_true, if_false]
  refine wpAny_bind (wpAny_specialOf ho'.typeIs F.slot_dict_iter.lookup (wpAny_pure ?_))
  simp only [beq_self_eq_true, if_true]
  refine wpAny_bind (wpAny_pure ?_)
  refine mergeT hdo hoS hnew ho' h0 hh hsz fun h' hd' hs' => ?_
  show wpAny _ _ (Builtin.Dict.addKeywords s.heap.objs.size [] >>= _) _ _ _
  exact wpAny_bind (wpAny_pure (wpAny_pure ⟨rfl, h h' hd' hs'⟩))
end
theorem call_dict_T {X : Cx} : CallR X (.type "dict") (fun xs H Q => ∃ (a : Addr) (kvs : List (List Key × V)), xs = [.ref a] ∧ H a = some (.dT kvs) ∧ kvs ≠ [] ∧ (kvs.map fun kv => (tupleKind (mixKind X.prog X.w)).hash kv.1).Nodup ∧
    ∀ p, H p = none → Q (.ref p) (upd H p (.dT kvs))) := by
  intro pins s σ H xs us Q I r h
  obtain ⟨a, kvs, rfl, ha, h0, hh, q⟩ := h
  obtain ⟨u, rfl, ru⟩ := r.one
  cases ru
  obtain ⟨z, hd, xs, rel, dd⟩ := dt_of I.hok ha
  have keys : ∀ {l : List (List Key × V)} {m : List (List Key × Addr × Value)}, KT H l m → l.map (·.1) = m.map (·.1) := by
    intro l m q
    induction q with
    | nil => rfl
    | cons h t ih => rw [List.map_cons, List.map_cons, h.1, ih]
  have hk := keys rel
  have hl : kvs.length = xs.length := Paired.length rel
  have hh' : (xs.map fun x => (tupleKind (mixKind X.prog X.w)).hash x.1).Nodup := by
    have e1 : (xs.map fun x => (tupleKind (mixKind X.prog X.w)).hash x.1) = (xs.map (·.1)).map (tupleKind (mixKind X.prog X.w)).hash := by rw [List.map_map]; rfl
    have e2 : (kvs.map fun kv => (tupleKind (mixKind X.prog X.w)).hash kv.1) = (kvs.map (·.1)).map (tupleKind (mixKind X.prog X.w)).hash := by rw [List.map_map]; rfl
    rw [e1, ← hk, ← e2]
    exact hh
  have hx0 : xs ≠ [] := fun e => by
    rw [e] at hl
    exact h0 (List.length_eq_zero_iff.mp hl)
  have hnd : (xs.map (·.1)).Nodup := let ⟨_, _, _, _, _, _, _, _, hn⟩ := dd; hn
  refine dictT hd dd hx0 hh' (by omega) fun h' hd' hs => ?_
  have hp := I.hok.fresh (Nat.le_refl s.heap.objs.size)
  refine ⟨.ref s.heap.objs.size, _, I.laid (a := s.heap.objs.size) (o := .dT kvs) (t' := s.toks) (fun b ob hb => ?_) (Nat.le_refl _) ?_, rfl, q _ hp⟩
  · exact (hs.2 b (Nat.ne_of_lt (Heap.lt_size hb))).trans (Heap.get?_push_of_some _ hb)
  · obtain ⟨o', es, ep, h1, h2, h3, h4⟩ := hd'
    exact ⟨z, beq_eq_false_iff_ne.mpr (Ne.symm (Nat.ne_of_lt I.big)), xs, rel.keeps fun c ys ec => by rw [upd_ne (ne_of_none ec hp)]; exact ec, o', es, ep, h1, h2, h3, h4, hnd⟩
end L2

set_option Elab.async false
set_option linter.all false
set_option maxRecDepth 100000
set_option maxHeartbeats 4000000
namespace Tl
open PySem PySem.Spec PyProof.Rows L2
open Ux06 (worth leaves)
/-! ### the text by places; the data -/
def top (i : Nat) : Stmt := PySem.Challenge.pw_tornleaves_s01_answers.main.body.getD i (.Pass ⟨0, 0, 0, 0⟩)
abbrev iv (l : List Nat) : List V := (Ux06.ints l).map V.int
def bf (n : Int) (l : Addr) : List (Str × V) := putF "torn" (.ref l) (putF "leaves" (.int n) [])
theorem bf_leaves (n : Int) (l : Addr) : (bf n l).lookup ("leaves" : Str) = some (.int n) := by
  unfold bf
  rw [lookup_putF, if_neg (by decide +kernel), lookup_putF, if_pos rfl]
theorem bf_torn (n : Int) (l : Addr) : (bf n l).lookup ("torn" : Str) = some (.ref l) := by
  unfold bf
  rw [lookup_putF, if_pos rfl]
theorem bf_no (n : Int) (l : Addr) {m : Str} (h1 : ¬ m = "torn") (h2 : ¬ m = "leaves") : (bf n l).lookup m = none := by
  unfold bf
  rw [lookup_putF, if_neg h1, lookup_putF, if_neg h2]
  all_goals rfl
theorem bf_eq (n : Int) (l : Addr) : bf n l = [(("leaves" : Str), V.int n), (("torn" : Str), V.ref l)] := by
  show (if ("leaves" : Str) = "torn" then [(("leaves" : Str), V.ref l)] else [("leaves", V.int n), ("torn", V.ref l)]) = _
  rw [if_neg (by decide +kernel)]
theorem bf_putL (n y : Int) (l : Addr) : putF "leaves" (.int y) (bf n l) = bf y l := by
  rw [bf_eq, bf_eq]
  show (if ("leaves" : Str) = "leaves" then [(("leaves" : Str), V.int y), ("torn", V.ref l)] else _) = _
  rw [if_pos rfl]
theorem bf_putT (n : Int) (l l' : Addr) : putF "torn" (.ref l') (bf n l) = bf n l' := by
  rw [bf_eq, bf_eq]
  show (if ("leaves" : Str) = "torn" then _ else ((("leaves" : Str), V.int n) :: (if ("torn" : Str) = "torn" then [(("torn" : Str), V.ref l')] else _))) = _
  rw [if_neg (by decide +kernel), if_pos rfl]
/-- the book b stands at p, its torn leaves at l, in some order -/
structure BookAt (C : Addr) (H : Hp) (p l : Addr) (b : Ux06.Book) : Prop where
  ex : ∃ (dx : Addr) (ts : List Nat), H p = some (.ins C dx (bf b.n l)) ∧ H l = some (.lst (iv ts)) ∧ ts.Perm b.torn
  ok : Ok b
theorem BookAt.ne {C : Addr} {H : Hp} {p l : Addr} {b : Ux06.Book} (B : BookAt C H p l b) : p ≠ l := by
  obtain ⟨dx, ts, h1, h2, _⟩ := B.ex
  exact ne_of h1 h2 (by intro z; cases z)
theorem BookAt.same {C : Addr} {H H' : Hp} {p l : Addr} {b : Ux06.Book} (B : BookAt C H p l b) (S : Same H H') : BookAt C H' p l b := by
  obtain ⟨dx, ts, h1, h2, h3⟩ := B.ex
  exact ⟨⟨dx, ts, S _ _ h1, S _ _ h2, h3⟩, B.ok⟩
/-- what a call of the book hands back: a new list with the answer; the book behind it -/
def Post (C : Addr) (H : Hp) (p l : Addr) (b' : Ux06.Book) (ans : List Int) (Q : VK) : Prop :=
  ∀ (H' : Hp) (q l' : Addr), H q = none → H' q = some (.lst (ans.map V.int)) → BookAt C H' p l' b' → q ≠ l' → (l' = l ∨ H l' = none) → (∀ a o, H a = some o → a ≠ p → a ≠ l → H' a = some o) → Q (.ref q) H'
/-- nothing of the book has changed -/
theorem Post.same {C : Addr} {H H1 : Hp} {p l q : Addr} {b : Ux06.Book} {ans : List Int} {Q : VK} (h : Post C H p l b ans Q) (B : BookAt C H p l b) (S : Same H H1) (hq : H1 q = none) : Q (.ref q) (upd H1 q (.lst (ans.map V.int))) := by
  have S2 : Same H (upd H1 q (.lst (ans.map V.int))) := S.trans (Same.new hq)
  obtain ⟨dx, ts, h1, h2, h3⟩ := id B.ex
  exact h _ q l (S.free hq) upd_same (B.same S2) (fun e => by subst e; rw [S _ _ h2] at hq; cases hq) (.inl rfl) fun a o e _ _ => S2 a o e
structure Txt (K : PySem.W.Frag) (mg : Str → Option Value) (C nb : Addr) : Prop where
  cl : Cls K C
  nL : NoAttr K C "leaves"
  nT : NoAttr K C "torn"
  mgC : mg "Book" = some (.ref C)
  c_LEAVES_AT_FIRST : Has mg "LEAVES_AT_FIRST" (.int 10)
  c_MOST_LEAVES : Has mg "MOST_LEAVES" (.int 30)
  c_LARGEST_SUM : Has mg "LARGEST_SUM" (.int 1830)
  c_OUT_OF_RANGE : Has mg "OUT_OF_RANGE" (.int (-1))
  c_NO_SUCH_LEAF : Has mg "NO_SUCH_LEAF" (.int (-2))
  c_ALREADY_TORN : Has mg "ALREADY_TORN" (.int (-4))
  c_NOT_THERE : Has mg "NOT_THERE" (.int (-6))
  c_BOOK : Has mg "BOOK" (.int 0)
  c_TEAR : Has mg "TEAR" (.int 1)
  c_PUT : Has mg "PUT" (.int 2)
  c_SHOWS : Has mg "SHOWS" (.int 3)
  c_SUMS : Has mg "SUMS" (.int 4)
  c_CAN : Has mg "CAN" (.int 5)
  c_FIRST : Has mg "FIRST" (.int 6)
  c_WAYS : Has mg "WAYS" (.int 7)
  c_NUMBERS : Has mg "NUMBERS" (.int 8)
  c_ALL : Has mg "ALL" (.int 9)
  c_PIECES : Has mg "PIECES" (.int 10)
  c_GAPS : Has mg "GAPS" (.int 11)
  c_NUMBERS_BEHIND : Has mg "NUMBERS_BEHIND" (.ref nb)
  len : mg "len" = none
  sum : mg "sum" = none
  sorted : mg "sorted" = none
  list : mg "list" = none
  range : mg "range" = none
  enumerate : mg "enumerate" = none
  reversed : mg "reversed" = none
  dict : mg "dict" = none
section
variable {P : Program} {w : World} {K : PySem.W.Frag} {mg : Str → Option Value} {base : Heap}
/-! ### pages_of -/
abbrev s_pages_of : Stmt := top 22
theorem SC_pages_of : FnScope ["leaf"] ["leaf"] (defScope s_pages_of) := ⟨rfl, rfl, rfl, by decide +kernel, rfl, by decide +kernel, by decide +kernel⟩
def spPages : Sp := fun vs H Q _ => ∃ k : Int, vs = [.int k] ∧ ∀ q, H q = none → Q (.ref q) (upd H q (.lst [.int (2 * k - 1), .int (2 * k)]))
theorem ok_pages {f : Addr} {fd : FuncData} (F : Fun K "pages_of" "pages_of" s_pages_of f fd) : FnOk P w K mg base CX0 1 f fd ["leaf"] spPages := by
  refine F.ok SC_pages_of (fun vs H Q E h => ?_) (fun cdv A outer s H vs Q E hr h => ?_)
  · obtain ⟨k, rfl, _⟩ := h
    rfl
  · obtain ⟨k, rfl, h⟩ := h
    refine ⟨_, (pss_one (ps_ret (pe_lst (pa_cons (pe_op op_sub (pe_op op_mul pe_int (pv 0)) pe_int) (pa_cons (pe_op op_mul pe_int (pv 0)) pa_nil))))), ?_⟩
    refine ⟨_, rfl, _, _, rfl, rfl, .inl ⟨by decide, by decide⟩, _, _, rfl, rfl, _, rfl, _, _, rfl, rfl, .inl ⟨by decide, by decide⟩, (by show 2 ≤ sizeLine; decide), fun q hq => ?_⟩
    exact h q hq
/-! ### leaf_total -/
abbrev s_leaf_total : Stmt := top 24
theorem SC_leaf_total : FnScope ["size", "pages"] ["size", "pages"] (defScope s_leaf_total) := ⟨rfl, rfl, rfl, by decide +kernel, rfl, by decide +kernel, by decide +kernel⟩
def spTotal : Sp := fun vs H Q _ => ∃ m s : Int, vs = [.int m, .int s] ∧ Q (.int ((s + m) / 4)) H
theorem ok_total {f : Addr} {fd : FuncData} (F : Fun K "leaf_total" "leaf_total" s_leaf_total f fd) : FnOk P w K mg base CX0 1 f fd ["size", "pages"] spTotal := by
  refine F.ok SC_leaf_total (fun vs H Q E h => ?_) (fun cdv A outer s H vs Q E hr h => ?_)
  · obtain ⟨m, t, rfl, _⟩ := h
    rfl
  · obtain ⟨m, t, rfl, h⟩ := h
    refine ⟨_, (pss_one (ps_ret (pe_op op_fdiv (pe_op op_add (pv 1) (pv 0)) pe_int))), ?_⟩
    exact ⟨_, rfl, _, rfl, _, _, rfl, rfl, _, _, rfl, rfl, ⟨by decide, by decide⟩, h⟩
/-! ### reachable -/
abbrev s_reachable : Stmt := top 26
theorem SC_reachable : FnScope ["low", "high", "size", "total", "steps"] ["low", "high", "size", "total"] (defScope s_reachable) := ⟨rfl, rfl, rfl, by decide +kernel, rfl, by decide +kernel, by decide +kernel⟩
def spReach : Sp := fun vs H Q _ => ∃ (a c m : Nat) (hi t : Int), vs = [.int (a : Int), .int hi, .int (m : Int), .int t] ∧ hi = (a : Int) + (c : Int) - 1 ∧ m < 4294967296 ∧ Q (.bl (decide (0 ≤ t ∧ Rch a c m t.toNat))) H
theorem ok_reach {f : Addr} {fd : FuncData} (F : Fun K "reachable" "reachable" s_reachable f fd) : FnOk P w K mg base CX0 1 f fd ["low", "high", "size", "total"] spReach := by
  refine F.ok SC_reachable (fun vs H Q E h => ?_) (fun cdv A outer s H vs Q E hr h => ?_)
  · obtain ⟨a, c, m, hi, t, rfl, _⟩ := h
    rfl
  · obtain ⟨a, c, m, hi, t, rfl, rfl, hm, h⟩ := h
    refine ⟨_, (pss_cons (ps_set (i := 4) SC_reachable.nd rfl (Or.inl rfl) (pe_op op_fdiv (pe_op op_mul (pv 2) (pe_op op_sub (pv 2) pe_int)) pe_int))
      (pss_one (ps_ret (pe_and (pe_cmpR op_ge (pv 3) (pe_op op_add (pe_op op_mul (pv 2) (pv 0)) (pv 4)) (nomark _)) (pe_one (pe_cmpR op_le (pv 3) (pe_op op_sub (pe_op op_mul (pv 2) (pv 1)) (pv 4)) (nomark _))))))), ?_⟩
    have hb : CMul (m : Int) ((m : Int) - 1) := .inl ⟨by omega, by omega⟩
    have hb1 : ∀ z : Int, CMul (m : Int) z := fun z => .inl ⟨by omega, by omega⟩
    refine ⟨_, rfl, _, rfl, _, _, rfl, rfl, _, _, rfl, rfl, hb, _, _, rfl, rfl, ⟨by decide, by decide⟩, ?_⟩
    refine ⟨_, rfl, _, rfl, _, rfl, _, _, rfl, rfl, hb1 _, _, rfl, _, _, rfl, rfl, _, _, rfl, rfl, _, rfl, ?_⟩
    have e := reach_iff a c m t
    refine ite2 (fun h1 => ?_) (fun h1 => ?_)
    · refine ⟨_, rfl, _, rfl, _, rfl, _, _, rfl, rfl, hb1 _, _, rfl, _, _, rfl, rfl, _, _, rfl, rfl, ?_⟩
      have h1' := of_decide_eq_true h1
      have e2 : decide (t ≤ (m : Int) * ((a : Int) + (c : Int) - 1) - (m : Int) * ((m : Int) - 1) / 2) = decide (0 ≤ t ∧ Rch a c m t.toNat) :=
        decide_eq_decide.mpr ⟨fun z => e.mp ⟨h1', z⟩, fun z => (e.mpr z).2⟩
      show Q (.bl (decide (t ≤ (m : Int) * ((a : Int) + (c : Int) - 1) - (m : Int) * ((m : Int) - 1) / 2))) H
      rw [e2]
      exact h
    · have e2 : false = decide (0 ≤ t ∧ Rch a c m t.toNat) := by
        symm
        refine decide_eq_false fun z => h1 (decide_eq_true (e.mpr z).1)
      rw [e2]
      exact h
/-! ### set_exists -/
abbrev s_set_exists : Stmt := top 25
theorem SC_set_exists : FnScope ["leaves", "size", "pages"] ["leaves", "size", "pages"] (defScope s_set_exists) := ⟨rfl, rfl, rfl, by decide +kernel, rfl, by decide +kernel, by decide +kernel⟩
def spExists : Sp := fun vs H Q _ => ∃ n m s : Nat, vs = [.int (n : Int), .int (m : Int), .int (s : Int)] ∧ m < 4294967296 ∧ Q (.bl (decide (Wn (leaves n) m s ≠ 0))) H
theorem ok_exists {f : Addr} {fd : FuncData} (F : Fun K "set_exists" "set_exists" s_set_exists f fd) (F_reachable : FnAt P w K mg base "reachable" 1 ["low", "high", "size", "total"] spReach) (F_leaf_total : FnAt P w K mg base "leaf_total" 1 ["size", "pages"] spTotal) :
    FnOk P w K mg base CX0 2 f fd ["leaves", "size", "pages"] spExists := by
  refine F.ok SC_set_exists (fun vs H Q E h => ?_) (fun cdv A outer s H vs Q E hr h => ?_)
  · obtain ⟨n, m, t, rfl, _⟩ := h
    rfl
  · obtain ⟨n, m, t, rfl, hm, h⟩ := h
    refine ⟨_, (pss_cons (ps_if (pt_cmpR op_ne (pe_op op_mod (pe_op op_add (pv 2) (pv 1)) pe_int) pe_int (nomark _))
        (pss_one (ps_ret pe_bl))
        pss_nil)
      (pss_one (ps_ret (pe_fn F_reachable (hr.mono (by decide)) rfl (pa_cons pe_int (pa_cons (pv 0) (pa_cons (pv 1) (pa_cons (pe_fn F_leaf_total (hr.mono (by decide)) rfl (pa_cons (pv 1) (pa_cons (pv 2) pa_nil))) pa_nil)))))))), ?_⟩
    refine ⟨_, rfl, _, rfl, _, _, rfl, rfl, _, _, rfl, rfl, (by show (0 : Int) < 4; decide), rfl, _, rfl, ?_⟩
    have e := exists_iff n m t
    by_cases h4 : (t + m) % 4 = 0
    · have h4' : V.int (((t : Int) + (m : Int)) % 4) = V.int 0 := by congr 1; omega
      refine iteNS h4' ?_
      refine ⟨_, rfl, _, rfl, _, rfl, _, rfl, _, _, rfl, ?_⟩
      refine ⟨1, n, m, _, _, rfl, (by omega), hm, ?_⟩
      have e1 : decide (0 ≤ ((t : Int) + (m : Int)) / 4 ∧ Rch 1 n m (((t : Int) + (m : Int)) / 4).toNat) = decide (Wn (leaves n) m t ≠ 0) := by
        refine decide_eq_decide.mpr ?_
        rw [e]
        have e2 : (((t : Int) + (m : Int)) / 4).toNat = (t + m) / 4 := by omega
        rw [e2]
        constructor
        · rintro ⟨_, z⟩; exact ⟨h4, z⟩
        · rintro ⟨_, z⟩; exact ⟨by omega, z⟩
      rw [e1]
      exact h
    · have h4' : ¬ V.int (((t : Int) + (m : Int)) % 4) = V.int 0 := by
        intro z
        injection z with z
        omega
      rw [decide_eq_false h4']
      refine iteT ?_
      have e1 : false = decide (Wn (leaves n) m t ≠ 0) := by
        symm
        exact decide_eq_false fun z => h4 (e.mp z).1
      show Q (.bl false) H
      rw [e1]
      exact h
end
end Tl

set_option Elab.async false
set_option linter.all false
set_option maxRecDepth 100000
set_option maxHeartbeats 4000000
namespace Tl
open PySem PySem.Spec PyProof.Rows L2
open Ux06 (worth leaves)
theorem iv_snoc (l : List Nat) (k : Nat) : iv (l ++ [k]) = iv l ++ [V.int (k : Int)] := by
  unfold iv Ux06.ints
  rw [List.map_append, List.map_append]
  rfl
theorem iv_len (l : List Nat) : (iv l).length = l.length := by
  unfold iv Ux06.ints
  rw [List.length_map, List.length_map]
theorem iv_at {l : List Nat} {i : Nat} {x : V} (h : (iv l)[i]? = some x) : ∃ k, l[i]? = some k ∧ x = V.int (k : Int) := by
  unfold iv Ux06.ints at h
  rw [List.getElem?_map, List.getElem?_map] at h
  cases e : l[i]? with
  | none => rw [e] at h; cases h
  | some k => rw [e] at h; exact ⟨k, rfl, (Option.some.inj h).symm⟩
theorem take_snoc {α : Type} : ∀ {l : List α} {i : Nat} {x : α}, l[i]? = some x → l.take (i + 1) = l.take i ++ [x]
  | [], i, x, h => by simp at h
  | a :: l, 0, x, h => by
    have e : a = x := Option.some.inj h
    subst e
    rfl
  | a :: l, i + 1, x, h => by
    have ih := take_snoc (l := l) (i := i) (x := x) h
    show a :: l.take (i + 1) = a :: l.take i ++ [x]
    rw [ih]
    rfl
/-- a leaf's two pages' sum -/
def two (k : Nat) : Int := ([2 * (k : Int) - 1, 2 * (k : Int)] : List Int).sum
theorem two_eq {k : Nat} (h : 1 ≤ k) : two k = ((worth k : Nat) : Int) := by
  unfold two
  rw [worth_int h, List.sum_cons, List.sum_cons, List.sum_nil]
  omega
theorem sum_two : ∀ ts : List Nat, (∀ k ∈ ts, 1 ≤ k) → (ts.map two).sum = ((Ux06.sum ts : Nat) : Int)
  | [], _ => rfl
  | k :: ts, h => by
    have ih := sum_two ts fun x hx => h x (List.mem_cons_of_mem _ hx)
    rw [List.map_cons, List.sum_cons, ih, two_eq (h k (List.mem_cons_self ..)), sum_eq, sum_eq, List.map_cons, List.sum_cons]
    omega
section
variable {P : Program} {w : World} {K : PySem.W.Frag} {mg : Str → Option Value} {base : Heap}
/-! ### sum_of_pages -/
abbrev s_sum_of_pages : Stmt := top 23
theorem SC_sum_of_pages : FnScope ["leaves", "leaf"] ["leaves"] (defScope s_sum_of_pages) := ⟨rfl, rfl, rfl, by decide +kernel, rfl, by decide +kernel, by decide +kernel⟩
def spSum (K : PySem.W.Frag) : Sp := fun vs H Q _ => ∃ (a : Addr) (ts : List Nat), vs = [.ref a] ∧ SqL K H a (iv ts) ∧ ts.length ≤ 1000 ∧ (∀ k ∈ ts, 1 ≤ k) ∧ ∀ H', Same H H' → Q (.int ((Ux06.sum ts : Nat) : Int)) H'
theorem ok_sum {f C nb : Addr} {fd : FuncData} (F : Fun K "sum_of_pages" "sum_of_pages" s_sum_of_pages f fd) (T : Txt K mg C nb) (F_pages_of : FnAt P w K mg base "pages_of" 1 ["leaf"] spPages) :
    FnOk P w K mg base CX0 2 f fd ["leaves"] (spSum K) := by
  refine F.ok SC_sum_of_pages (fun vs H Q E h => ?_) (fun cdv A outer s H vs Q E hr h => ?_)
  · obtain ⟨a, ts, rfl, _⟩ := h
    rfl
  · obtain ⟨a, ts, rfl, hS, hlen, hpos, k⟩ := h
    refine ⟨_, (pss_one (ps_ret (pe_callB (cr_sum rfl) rfl T.sum boot_sum (pa_cons (pe_lc (own := [("leaf", 1)]) (te := tCB (rSum K) (tCons (tCall spPages [] E0 (tCons (tVar 1) tNil)) tNil)) rfl SC_sum_of_pages.nd (pi_list (pv 0)) (blkOk_by (by show blkC ["leaves", "leaf"] (defScope s_sum_of_pages) _ [("leaf", 1)] = true; decide +kernel)) (fun _ _ _ _ _ => pg_name (i := 1) SC_sum_of_pages.nd rfl (Or.inl rfl)) (fun _ _ _ _ _ => pts_nil)
      (fun _ _ _ _ _ => (pe_callB (cr_sum rfl) rfl T.sum boot_sum (pa_cons (pe_fn F_pages_of (hr.mono (by decide)) rfl (pa_cons (pv 1) pa_nil)) pa_nil)))) pa_nil)))), ?_⟩
    refine ⟨_, rfl, a, rfl, ⟨_, hS⟩, fun D hD => lc_list (K := K) (a := a) (xs := iv ts) (fun i H' => Same H H' ∧ H' D = some (.lst (((ts.take i).map two).map V.int))) ⟨Same.new hD, upd_same⟩ (fun i H' _ ⟨S, _⟩ => S.seq hS) ?_ ?_⟩
    · rintro i x H' hx ⟨S, hD'⟩
      obtain ⟨z, hz, rfl⟩ := iv_at hx
      refine ⟨rfl, ?_⟩
      show tCB (rSum K) (tCons (tCall spPages [] E0 (tCons (tVar 1) tNil)) tNil) _ _ _
      refine ⟨_, rfl, (z : Int), rfl, fun q hq => ?_⟩
      refine ⟨q, [2 * (z : Int) - 1, 2 * (z : Int)], rfl, SqL.of upd_same, ?_⟩
      have hqD : D ≠ q := ne_of_none hD' hq
      refine ⟨_, (by rw [upd_ne hqD]; exact hD'), ?_, ?_, ?_⟩
      · rw [List.length_map, List.length_map, List.length_take]
        exact Nat.lt_of_le_of_lt (Nat.le_trans (Nat.min_le_right _ _) hlen) (by decide)
      · intro b o e
        have hb : b ≠ D := ne_of_none e hD
        rw [upd_ne hb, upd_ne (ne_of_none (S b o e) hq)]
        exact S b o e
      · rw [upd_same, take_snoc hz, List.map_append, List.map_append]
        rfl
    · rintro H' ⟨S, hD'⟩
      rw [iv_len, List.take_length] at hD'
      refine ⟨D, ts.map two, rfl, SqL.of hD', ?_⟩
      rw [sum_two ts hpos]
      exact k H' S
/-! ### first_set -/
abbrev s_first_set : Stmt := top 27
theorem SC_first_set : FnScope ["leaves", "size", "total", "chosen", "missing", "rest", "leaf"] ["leaves", "size", "total"] (defScope s_first_set) := ⟨rfl, rfl, rfl, by decide +kernel, rfl, by decide +kernel, by decide +kernel⟩
def spFirstSet : Sp := fun vs H Q _ => ∃ n m t : Nat, vs = [.int (n : Int), .int (m : Int), .int (t : Int)] ∧ n ≤ 1000 ∧ m < 4294967296 ∧ ∀ H' q, Same H H' → H q = none → H' q = some (.lst (iv (FV (List.range' 1 n) m t))) → Q (.ref q) H'
theorem ok_first_set {f C nb : Addr} {fd : FuncData} (F : Fun K "first_set" "first_set" s_first_set f fd) (T : Txt K mg C nb) (F_reachable : FnAt P w K mg base "reachable" 1 ["low", "high", "size", "total"] spReach) :
    FnOk P w K mg base CX0 2 f fd ["leaves", "size", "total"] spFirstSet := by
  refine F.ok SC_first_set (fun vs H Q E h => ?_) (fun cdv A outer s H vs Q E hr h => ?_)
  · obtain ⟨n, m, t, rfl, _⟩ := h
    rfl
  · obtain ⟨n, m, t, rfl, hn, hm, k⟩ := h
    refine ⟨_, (pss_cons (ps_set (i := 3) SC_first_set.nd rfl (Or.inl rfl) (pe_lst pa_nil))
      (pss_cons (ps_set (i := 4) SC_first_set.nd rfl (Or.inl rfl) (pv 1))
      (pss_cons (ps_set (i := 5) SC_first_set.nd rfl (Or.inl rfl) (pv 2))
      (pss_cons (ps_for PassesOwn.never rfl (pi_range2 rfl T.range (pa_cons pe_int (pa_cons (pe_op op_add (pv 0) pe_int) pa_nil))) (pg_name (i := 6) SC_first_set.nd rfl (Or.inl rfl))
        (pss_one (ps_if (PW.pt (pw_and (pt_cmpR op_gt (pv 4) pe_int (nomark _)) (pw_and1 (pt_val (pe_fn F_reachable (hr.mono (by decide)) rfl (pa_cons (pe_op op_add (pv 6) pe_int) (pa_cons (pv 0) (pa_cons (pe_op op_sub (pv 4) pe_int) (pa_cons (pe_op op_sub (pv 5) (pv 6)) pa_nil)))))))))
        (pss_cons (ps_expr (pe_bm PySem.F.plainAttrs_list PySem.F.slot_list_append PySem.F.type_list_append mt_append (pv 3) (pa_cons (pv 6) pa_nil)))
      (pss_cons (ps_set (i := 4) SC_first_set.nd rfl (Or.inl rfl) (pe_op op_sub (pv 4) pe_int))
      (pss_one (ps_set (i := 5) SC_first_set.nd rfl (Or.inl rfl) (pe_op op_sub (pv 5) (pv 6))))))
        pss_nil)))
      (pss_one (ps_ret (pv 3))))))), ?_⟩
    refine ⟨Nat.zero_le _, fun q hq => ?_⟩
    refine ⟨_, rfl, _, rfl, _, rfl, _, _, rfl, rfl, 1, (n : Int) + 1, rfl, ⟨by decide, by decide, by omega, by omega⟩, ?_⟩
    refine for_range (lo := 1) (n := ((n : Int) + 1 - 1).toNat) (fun i σ H' => ∃ (c : List Nat) (m' t' : Nat) (v : Option V), σ = [some (.int (n : Int)), some (.int (m : Int)), some (.int (t : Int)), some (.ref q), some (.int (m' : Int)), some (.int (t' : Int)), v] ∧
      Same H H' ∧ H' q = some (.lst (iv c)) ∧ FV (List.range' 1 n) m t = c ++ FV (List.range' (i + 1) (n - i)) m' t' ∧ m' ≤ m ∧ c.length ≤ i) ⟨[], m, t, none, rfl, Same.new hq, upd_same, rfl, Nat.le_refl _, Nat.le_refl _⟩ ?_ ?_
    · rintro i σ H' hi ⟨c, m', t', v, rfl, S, hq', hF, hm', hc⟩
      have hi' : i < n := by omega
      have en : n - i = (n - (i + 1)) + 1 := by omega
      rw [en, FV_step] at hF
      refine ⟨_, rfl, _, _, rfl, rfl, _, rfl, ?_⟩
      refine ite2 (fun h1 => ?_) (fun h1 => ?_)
      · have h1' : 0 < (m' : Int) := of_decide_eq_true h1
        have e1 : (1 + (i : Int)) + 1 = ((i + 1 + 1 : Nat) : Int) := by omega
        have e2 : (m' : Int) - 1 = ((m' - 1 : Nat) : Int) := by omega
        have e3 : (t' : Int) - (1 + (i : Int)) = (t' : Int) - ((i + 1 : Nat) : Int) := by omega
        refine ⟨_, rfl, _, _, rfl, rfl, _, rfl, _, rfl, _, _, rfl, rfl, _, rfl, _, rfl, _, _, rfl, rfl, ?_⟩
        refine ⟨i + 1 + 1, n - (i + 1), m' - 1, (n : Int), (t' : Int) - ((i + 1 : Nat) : Int), (by show [V.int (1 + (i : Int) + 1), V.int (n : Int), V.int ((m' : Int) - 1), V.int ((t' : Int) - (1 + (i : Int)))] = _; rw [e1, e2, e3]), by omega, by omega, _, rfl, ?_⟩
        refine ite2 (fun h2 => ?_) (fun h2 => ?_)
        · have h2' := of_decide_eq_true h2
          rw [if_pos ⟨by omega, h2'⟩] at hF
          refine ⟨_, rfl, .inl ⟨rfl, _, SqL.of hq'⟩, _, rfl, q, _, _, rfl, rfl, hq', (by rw [iv_len]; exact Nat.lt_of_le_of_lt (show c.length ≤ 1000 by omega) (by decide)), ?_⟩
          refine ⟨_, rfl, _, _, rfl, rfl, _, rfl, _, rfl, _, _, rfl, rfl, ?_⟩
          refine ⟨c ++ [i + 1], m' - 1, t' - (i + 1), some (V.int (1 + (i : Int))), ?_, fun b o e => ?_, ?_, ?_, by omega, ?_⟩
          · show [_, _, _, _, some (V.int ((m' : Int) - 1)), some (V.int ((t' : Int) - (1 + (i : Int)))), _] = _
            rw [e2, e3, show (t' : Int) - ((i + 1 : Nat) : Int) = ((t' - (i + 1) : Nat) : Int) by omega]
          · rw [upd_ne (ne_of_none e hq)]
            exact S b o e
          · rw [upd_same, iv_snoc, show (1 + (i : Int)) = ((i + 1 : Nat) : Int) by omega]
          · rw [hF, List.append_assoc]
            rfl
          · rw [List.length_append, List.length_singleton]
            omega
        · rw [if_neg (fun z => h2 (decide_eq_true z.2))] at hF
          exact ⟨c, m', t', _, rfl, S, hq', hF, hm', by omega⟩
      · rw [if_neg (fun z => h1 (decide_eq_true (by omega)))] at hF
        refine iteF ?_
        exact ⟨c, m', t', _, rfl, S, hq', hF, hm', by omega⟩
    · rintro σ H' ⟨c, m', t', v, rfl, S, hq', hF, hm', hc⟩
      have e0 : n - ((n : Int) + 1 - 1).toNat = 0 := by omega
      rw [e0] at hF
      refine ⟨_, rfl, ?_⟩
      refine k H' q S hq ?_
      rw [hF]
      show H' q = some (.lst (iv (c ++ [])))
      rw [List.append_nil]
      exact hq'
/-! ### Book.__init__ -/
abbrev s_init : Stmt := inClass (top 21) 0
theorem SC_init : FnScope ["self"] ["self"] (defScope s_init) := ⟨rfl, rfl, rfl, by decide +kernel, rfl, by decide +kernel, by decide +kernel⟩
def spInit (C : Addr) : Sp := fun vs H Q _ => ∃ (p dx : Addr), vs = [.ref p] ∧ H p = some (.ins C dx []) ∧ ∀ (H' : Hp) (l : Addr), BookAt C H' p l Ux06.init → H l = none → (∀ b o, H b = some o → b ≠ p → H' b = some o) → Q .non H'
theorem ok_init_def {f C nb : Addr} {fd : FuncData} (F : Fun K "__init__" "Book.__init__" s_init f fd) (T : Txt K mg C nb) : FnOk P w K mg base CX0 1 f fd ["self"] (spInit C) := by
  refine F.ok SC_init (fun vs H Q E h => ?_) (fun cdv A outer s H vs Q E hr h => ?_)
  · obtain ⟨p, dx, rfl, _⟩ := h
    rfl
  · obtain ⟨p, dx, rfl, hp, k⟩ := h
    refine ⟨_, (pss_cons (ps_fld (pv 0) (pe_gl rfl T.c_LEAVES_AT_FIRST) rfl)
      (pss_one (ps_fld (pv 0) (pe_lst pa_nil) rfl))), ?_⟩
    refine ⟨_, rfl, p, C, dx, [], rfl, hp, T.cl, T.nL, (by show 0 < 1000; decide), Nat.zero_le _, fun l hl => ?_⟩
    have hpl : p ≠ l := ne_of_none upd_same hl
    refine ⟨_, rfl, p, C, dx, _, rfl, (by rw [upd_ne hpl]; exact upd_same), T.cl, T.nT, (by show 1 < 1000; decide), ?_⟩
    refine k _ l ⟨⟨dx, [], upd_same, ?_, List.Perm.refl _⟩, ok_init⟩ ?_ fun b o e hb => ?_
    · rw [upd_ne (Ne.symm hpl)]
      exact upd_same
    · rw [upd_ne (Ne.symm hpl)] at hl
      exact hl
    · have hbl : b ≠ l := by
        rw [upd_ne (Ne.symm hpl)] at hl
        exact ne_of_none e hl
      rw [upd_ne hb, upd_ne hbl, upd_ne hb]
      exact e
/-! ### Book.begin -/
abbrev s_begin : Stmt := inClass (top 21) 1
theorem SC_begin : FnScope ["self", "leaves"] ["self", "leaves"] (defScope s_begin) := ⟨rfl, rfl, rfl, by decide +kernel, rfl, by decide +kernel, by decide +kernel⟩
/-- a call of the book with one number -/
def sp1 (C : Addr) (c : Nat → Ux06.Call) : Sp := fun vs H Q _ => ∃ (p l : Addr) (b : Ux06.Book) (k : Nat), vs = [.ref p, .int (k : Int)] ∧ k < 4294967296 ∧ BookAt C H p l b ∧ Post C H p l (Ux06.step b (c k)).1 (Ux06.step b (c k)).2 Q
def sp0 (C : Addr) (c : Ux06.Call) : Sp := fun vs H Q _ => ∃ (p l : Addr) (b : Ux06.Book), vs = [.ref p] ∧ BookAt C H p l b ∧ Post C H p l (Ux06.step b c).1 (Ux06.step b c).2 Q
def sp2 (C : Addr) (c : Nat → Nat → Ux06.Call) : Sp := fun vs H Q _ => ∃ (p l : Addr) (b : Ux06.Book) (m k : Nat), vs = [.ref p, .int (m : Int), .int (k : Int)] ∧ m < 4294967296 ∧ k < 4294967296 ∧ BookAt C H p l b ∧ Post C H p l (Ux06.step b (c m k)).1 (Ux06.step b (c m k)).2 Q
theorem ok_begin {f C nb : Addr} {fd : FuncData} (F : Fun K "begin" "Book.begin" s_begin f fd) (T : Txt K mg C nb) : FnOk P w K mg base CX0 1 f fd ["self", "leaves"] (sp1 C .book) := by
  refine F.ok SC_begin (fun vs H Q E h => ?_) (fun cdv A outer s H vs Q E hr h => ?_)
  · obtain ⟨p, l, b, k, rfl, _⟩ := h
    rfl
  · obtain ⟨p, l, b, k, rfl, hk, B, h⟩ := h
    refine ⟨_, (pss_cons (ps_if (PW.pt (pw_or (pt_cmpR op_lt (pv 1) pe_int (nomark _)) (pw_or1 (pt_cmpR op_gt (pv 1) (pe_gl rfl T.c_MOST_LEAVES) (nomark _)))))
        (pss_one (ps_ret (pe_lst (pa_cons (pe_gl rfl T.c_OUT_OF_RANGE) pa_nil))))
        pss_nil)
      (pss_cons (ps_fld (pv 0) (pv 1) rfl)
      (pss_cons (ps_fld (pv 0) (pe_lst pa_nil) rfl)
      (pss_one (ps_ret (pe_lst (pa_cons (pe_op op_mul pe_int (pv 1)) pa_nil))))))), ?_⟩
    obtain ⟨dx, ts, hp, hl, hperm⟩ := id B.ex
    have bad : (k < 1 ∨ 30 < k) → ∀ q, H q = none → Q (.ref q) (upd H q (.lst [V.int (-1)])) := fun hbad q hq => by
      have e : Ux06.step b (.book k) = (b, [-1]) := by
        show (if k < 1 ∨ 30 < k then (b, [-1]) else _) = _
        rw [if_pos hbad]
      rw [e] at h
      exact h.same B (Same.refl H) hq
    refine ⟨_, rfl, _, _, rfl, rfl, _, rfl, ?_⟩
    refine ite2 (fun h1 => ?_) (fun h1 => ?_)
    · refine iteT ⟨(by show 1 ≤ sizeLine; decide), fun q hq => ?_⟩
      exact bad (.inl (by have := of_decide_eq_true h1; omega)) q hq
    · refine ⟨_, rfl, _, _, rfl, rfl, _, rfl, ?_⟩
      refine ite2 (fun h2 => ?_) (fun h2 => ?_)
      · refine ⟨(by show 1 ≤ sizeLine; decide), fun q hq => ?_⟩
        exact bad (.inr (by have := of_decide_eq_true h2; omega)) q hq
      · have hg : ¬ (k < 1 ∨ 30 < k) := fun z => by
          rcases z with z | z
          · exact h1 (decide_eq_true (by omega))
          · exact h2 (decide_eq_true (by omega))
        have e : Ux06.step b (.book k) = (⟨k, []⟩, Ux06.ints [2 * k]) := by
          show (if k < 1 ∨ 30 < k then _ else _) = _
          rw [if_neg hg]
        rw [e] at h
        refine ⟨_, rfl, _, rfl, p, C, dx, _, rfl, hp, T.cl, T.nL, (by rw [bf_eq]; show 2 < 1000; decide), ?_⟩
        rw [bf_putL]
        refine ⟨Nat.zero_le _, fun l' hl' => ?_⟩
        have hpl' : p ≠ l' := ne_of_none upd_same hl'
        have hl'0 : H l' = none := by rw [upd_ne (Ne.symm hpl')] at hl'; exact hl'
        refine ⟨_, rfl, p, C, dx, _, rfl, (by rw [upd_ne hpl']; exact upd_same), T.cl, T.nT, (by rw [bf_eq]; show 2 < 1000; decide), ?_⟩
        rw [bf_putT]
        refine ⟨_, rfl, _, _, rfl, rfl, .inl ⟨by decide, by decide⟩, (by show 1 ≤ sizeLine; decide), fun q hq => ?_⟩
        have hpq : p ≠ q := ne_of_none upd_same hq
        have hql' : l' ≠ q := by
          refine ne_of_none (o := .lst []) ?_ hq
          rw [upd_ne (Ne.symm hpl'), upd_same]
        refine h _ q l' ?_ ?_ ⟨⟨dx, [], ?_, ?_, List.Perm.refl _⟩, ?_⟩ (Ne.symm hql') (.inr hl'0) fun a o e ha _ => ?_
        · rw [upd_ne (Ne.symm hpq), upd_ne (Ne.symm hql'), upd_ne (Ne.symm hpq)] at hq
          exact hq
        · rw [upd_same]
          show some (HO.lst [V.int (2 * (k : Int))]) = some (HO.lst [V.int ((2 * k : Nat) : Int)])
          rw [show ((2 * k : Nat) : Int) = 2 * (k : Int) by omega]
        · rw [upd_ne hpq, upd_same]
        · rw [upd_ne hql', upd_ne (Ne.symm hpl'), upd_same]
          rfl
        · exact ⟨by show 1 ≤ k; omega, by show k ≤ 30; omega, List.Pairwise.nil, fun _ z => nomatch z⟩
        · have haq : a ≠ q := by
            rw [upd_ne (Ne.symm hpq), upd_ne (Ne.symm hql'), upd_ne (Ne.symm hpq)] at hq
            exact ne_of_none e hq
          rw [upd_ne haq, upd_ne ha, upd_ne (ne_of_none e hl'0), upd_ne ha]
          exact e
end
end Tl

set_option Elab.async false
set_option linter.all false
set_option maxRecDepth 100000
set_option maxHeartbeats 4000000
namespace Tl
open PySem PySem.Spec PyProof.Rows L2
open Ux06 (worth leaves)
theorem inV_iv (k : Nat) (ts : List Nat) : inV (V.int (k : Int)) (iv ts) = ts.contains k := by
  unfold inV iv Ux06.ints
  rw [List.any_map, List.any_map]
  induction ts with
  | nil => rfl
  | cons x r ih =>
    rw [List.any_cons, List.contains_cons, ih]
    congr 1
    show ((x : Int) == (k : Int)) = (k == x)
    rw [Bool.eq_iff_iff, beq_iff_eq, beq_iff_eq]
    omega
theorem flat_iv (ts : List Nat) : (iv ts).all flatV = true := by
  unfold iv
  rw [List.all_map]
  exact List.all_eq_true.mpr fun _ _ => rfl
theorem ints_erase (k : Nat) (ts : List Nat) : (Ux06.ints ts).erase (k : Int) = Ux06.ints (ts.erase k) := by
  unfold Ux06.ints
  induction ts with
  | nil => rfl
  | cons x r ih =>
    rw [List.map_cons, List.erase_cons, List.erase_cons]
    by_cases e : x = k
    · subst e
      rw [if_pos (beq_self_eq_true _), if_pos (beq_self_eq_true _)]
    · have e1 : ¬ ((x : Int) == (k : Int)) = true := fun z => e (by have := eq_of_beq z; omega)
      have e2 : ¬ (x == k) = true := fun z => e (eq_of_beq z)
      rw [if_neg e1, if_neg e2, List.map_cons, ih]
theorem mem_ints {k : Nat} {ts : List Nat} (h : k ∈ ts) : (k : Int) ∈ Ux06.ints ts := by
  unfold Ux06.ints
  exact List.mem_map.mpr ⟨k, h, rfl⟩
theorem iv_pages {k : Nat} (h : 1 ≤ k) : ([V.int (2 * (k : Int) - 1), V.int (2 * (k : Int))] : List V) = (Ux06.pages k).map V.int := by
  show _ = [V.int ((2 * k - 1 : Nat) : Int), V.int ((2 * k : Nat) : Int)]
  rw [show ((2 * k - 1 : Nat) : Int) = 2 * (k : Int) - 1 by omega, show ((2 * k : Nat) : Int) = 2 * (k : Int) by omega]
section
variable {P : Program} {w : World} {K : PySem.W.Frag} {mg : Str → Option Value} {base : Heap}
/-! ### Book.has -/
abbrev s_has : Stmt := inClass (top 21) 2
theorem SC_has : FnScope ["self", "leaf"] ["self", "leaf"] (defScope s_has) := ⟨rfl, rfl, rfl, by decide +kernel, rfl, by decide +kernel, by decide +kernel⟩
def spHas (C : Addr) : Sp := fun vs H Q _ => ∃ (p l : Addr) (b : Ux06.Book) (k : Nat), vs = [.ref p, .int (k : Int)] ∧ BookAt C H p l b ∧ Q (.bl (decide (1 ≤ k ∧ k ≤ b.n))) H
theorem ok_has {f C nb : Addr} {fd : FuncData} (F : Fun K "has" "Book.has" s_has f fd) (T : Txt K mg C nb) : FnOk P w K mg base CX0 1 f fd ["self", "leaf"] (spHas C) := by
  refine F.ok SC_has (fun vs H Q E h => ?_) (fun cdv A outer s H vs Q E hr h => ?_)
  · obtain ⟨p, l, b, k, rfl, _⟩ := h
    rfl
  · obtain ⟨p, l, b, k, rfl, B, h⟩ := h
    refine ⟨_, (pss_one (ps_ret (pe_and (pe_cmpR op_ge (pv 1) pe_int (nomark _)) (pe_one (pe_cmpR op_le (pv 1) (pe_fld (pv 0) rfl) (nomark _)))))), ?_⟩
    obtain ⟨dx, ts, hp, hl, hperm⟩ := id B.ex
    refine ⟨_, rfl, _, _, rfl, rfl, _, rfl, ?_⟩
    refine ite2 (fun h1 => ?_) (fun h1 => ?_)
    · refine ⟨_, rfl, _, rfl, p, C, dx, _, _, rfl, hp, T.cl, T.nL, bf_leaves _ _, _, _, rfl, rfl, ?_⟩
      have h1' := of_decide_eq_true h1
      have e : decide ((k : Int) ≤ (b.n : Int)) = decide (1 ≤ k ∧ k ≤ b.n) := decide_eq_decide.mpr ⟨fun z => ⟨by omega, by omega⟩, fun z => by omega⟩
      show Q (.bl (decide ((k : Int) ≤ (b.n : Int)))) H
      rw [e]
      exact h
    · have e : false = decide (1 ≤ k ∧ k ≤ b.n) := by
        symm
        exact decide_eq_false fun z => h1 (decide_eq_true (by omega))
      rw [e]
      exact h
/-! ### Book.tear -/
abbrev s_tear : Stmt := inClass (top 21) 5
theorem SC_tear : FnScope ["self", "leaf"] ["self", "leaf"] (defScope s_tear) := ⟨rfl, rfl, rfl, by decide +kernel, rfl, by decide +kernel, by decide +kernel⟩
theorem ok_tear {f C nb : Addr} {fd : FuncData} (F : Fun K "tear" "Book.tear" s_tear f fd) (T : Txt K mg C nb) (M_has : MtAt P w K mg base C "has" 1 ["self", "leaf"] (spHas C)) (F_pages_of : FnAt P w K mg base "pages_of" 1 ["leaf"] spPages) :
    FnOk P w K mg base CX0 2 f fd ["self", "leaf"] (sp1 C .tear) := by
  refine F.ok SC_tear (fun vs H Q E h => ?_) (fun cdv A outer s H vs Q E hr h => ?_)
  · obtain ⟨p, l, b, k, rfl, _⟩ := h
    rfl
  · obtain ⟨p, l, b, k, rfl, hk, B, h⟩ := h
    refine ⟨_, (pss_cons (ps_if (pt_not (pt_val (pe_mt M_has (hr.mono (by decide)) (pv 0) (pa_cons (pv 1) pa_nil))))
        (pss_one (ps_ret (pe_lst (pa_cons (pe_gl rfl T.c_NO_SUCH_LEAF) pa_nil))))
        pss_nil)
      (pss_cons (ps_if (pt_cmpR op_in_seq (pv 1) (pe_fld (pv 0) rfl) (by with_unfolding_all rfl))
        (pss_one (ps_ret (pe_lst (pa_cons (pe_gl rfl T.c_ALREADY_TORN) pa_nil))))
        pss_nil)
      (pss_cons (ps_expr (pe_bm PySem.F.plainAttrs_list PySem.F.slot_list_append PySem.F.type_list_append mt_append (pe_fld (pv 0) rfl) (pa_cons (pv 1) pa_nil)))
      (pss_one (ps_ret (pe_fn F_pages_of (hr.mono (by decide)) rfl (pa_cons (pv 1) pa_nil))))))), ?_⟩
    obtain ⟨dx, ts, hp, hl, hperm⟩ := id B.ex
    refine ⟨_, rfl, p, dx, _, rfl, hp, bf_no _ _ (by decide +kernel) (by decide +kernel), _, rfl, p, l, b, k, rfl, B, _, rfl, ?_⟩
    by_cases hh : 1 ≤ k ∧ k ≤ b.n
    · refine iteNS hh ?_
      refine ⟨_, rfl, _, rfl, p, C, dx, _, _, rfl, hp, T.cl, T.nT, bf_torn _ _, l, iv ts, rfl, .inl (SqL.of hl), rfl, flat_iv ts, _, rfl, ?_⟩
      have ec : inV (V.int (k : Int)) (iv ts) = b.torn.contains k := by rw [inV_iv]; exact hperm.contains_eq
      have hneg : ¬ (k < 1 ∨ b.n < k) := by omega
      show if inV (V.int (k : Int)) (iv ts) = true then _ else _
      rw [ec]
      refine ite2 (fun h1 => ?_) (fun h1 => ?_)
      · refine ⟨(by show 1 ≤ sizeLine; decide), fun q hq => ?_⟩
        have e : Ux06.step b (.tear k) = (b, [-4]) := by
          show (if k < 1 ∨ b.n < k then _ else if b.torn.contains k = true then _ else _) = _
          rw [if_neg hneg, if_pos h1]
        rw [e] at h
        exact h.same B (Same.refl H) hq
      · have e : Ux06.step b (.tear k) = ({ b with torn := Ux06.insert k b.torn }, Ux06.pages k) := by
          show (if k < 1 ∨ b.n < k then _ else if b.torn.contains k = true then _ else _) = _
          rw [if_neg hneg, if_neg h1]
        rw [e] at h
        have hlen : ts.length ≤ 30 := by rw [hperm.length_eq]; exact Nat.le_trans B.ok.len B.ok.hi
        have hkn : k ∉ b.torn := fun z => h1 (by simpa using z)
        refine ⟨_, rfl, p, C, dx, _, _, rfl, hp, T.cl, T.nT, bf_torn _ _, .inl ⟨rfl, _, SqL.of hl⟩, _, rfl, l, iv ts, _, rfl, rfl, hl, (by rw [iv_len]; exact Nat.lt_of_le_of_lt hlen (by decide)), ?_⟩
        refine ⟨_, rfl, (k : Int), rfl, fun q hq => ?_⟩
        have hlq : l ≠ q := ne_of_none upd_same hq
        have hq0 : H q = none := by rw [upd_ne (Ne.symm hlq)] at hq; exact hq
        rw [iv_pages hh.1]
        refine h _ q l hq0 upd_same ⟨⟨dx, ts ++ [k], ?_, ?_, ?_⟩, B.ok.tear hh.1 hh.2 hkn⟩ (Ne.symm hlq) (.inl rfl) fun a o e _ ha => ?_
        · rw [upd_ne (ne_of_none hp hq0), upd_ne B.ne]
          exact hp
        · rw [upd_ne hlq, upd_same, iv_snoc]
        · exact (List.perm_append_comm.trans (hperm.cons k)).trans (insert_perm k b.torn).symm
        · rw [upd_ne (ne_of_none e hq0), upd_ne ha]
          exact e
    · rw [decide_eq_false hh]
      refine iteT ⟨(by show 1 ≤ sizeLine; decide), fun q hq => ?_⟩
      have e : Ux06.step b (.tear k) = (b, [-2]) := by
        show (if k < 1 ∨ b.n < k then _ else _) = _
        rw [if_pos (by omega)]
      rw [e] at h
      exact h.same B (Same.refl H) hq
/-! ### Book.put -/
abbrev s_put : Stmt := inClass (top 21) 6
theorem SC_put : FnScope ["self", "leaf"] ["self", "leaf"] (defScope s_put) := ⟨rfl, rfl, rfl, by decide +kernel, rfl, by decide +kernel, by decide +kernel⟩
theorem ok_put {f C nb : Addr} {fd : FuncData} (F : Fun K "put" "Book.put" s_put f fd) (T : Txt K mg C nb) (M_has : MtAt P w K mg base C "has" 1 ["self", "leaf"] (spHas C)) (F_pages_of : FnAt P w K mg base "pages_of" 1 ["leaf"] spPages) :
    FnOk P w K mg base CX0 2 f fd ["self", "leaf"] (sp1 C .put) := by
  refine F.ok SC_put (fun vs H Q E h => ?_) (fun cdv A outer s H vs Q E hr h => ?_)
  · obtain ⟨p, l, b, k, rfl, _⟩ := h
    rfl
  · obtain ⟨p, l, b, k, rfl, hk, B, h⟩ := h
    refine ⟨_, (pss_cons (ps_if (pt_not (pt_val (pe_mt M_has (hr.mono (by decide)) (pv 0) (pa_cons (pv 1) pa_nil))))
        (pss_one (ps_ret (pe_lst (pa_cons (pe_gl rfl T.c_NO_SUCH_LEAF) pa_nil))))
        pss_nil)
      (pss_cons (ps_if (pt_cmpR op_notIn_seq (pv 1) (pe_fld (pv 0) rfl) (by with_unfolding_all rfl))
        (pss_one (ps_ret (pe_lst (pa_cons (pe_gl rfl T.c_NOT_THERE) pa_nil))))
        pss_nil)
      (pss_cons (ps_expr (pe_bm PySem.F.plainAttrs_list PySem.F.slot_list_remove PySem.F.type_list_remove mt_remove (pe_fld (pv 0) rfl) (pa_cons (pv 1) pa_nil)))
      (pss_one (ps_ret (pe_fn F_pages_of (hr.mono (by decide)) rfl (pa_cons (pv 1) pa_nil))))))), ?_⟩
    obtain ⟨dx, ts, hp, hl, hperm⟩ := id B.ex
    refine ⟨_, rfl, p, dx, _, rfl, hp, bf_no _ _ (by decide +kernel) (by decide +kernel), _, rfl, p, l, b, k, rfl, B, _, rfl, ?_⟩
    by_cases hh : 1 ≤ k ∧ k ≤ b.n
    · refine iteNS hh ?_
      refine ⟨_, rfl, _, rfl, p, C, dx, _, _, rfl, hp, T.cl, T.nT, bf_torn _ _, l, iv ts, rfl, .inl (SqL.of hl), rfl, flat_iv ts, _, rfl, ?_⟩
      have ec : inV (V.int (k : Int)) (iv ts) = b.torn.contains k := by rw [inV_iv]; exact hperm.contains_eq
      have hneg : ¬ (k < 1 ∨ b.n < k) := by omega
      show if (!inV (V.int (k : Int)) (iv ts)) = true then _ else _
      rw [ec]
      cases hc : b.torn.contains k with
      | false =>
        refine iteT ⟨(by show 1 ≤ sizeLine; decide), fun q hq => ?_⟩
        have e : Ux06.step b (.put k) = (b, [-6]) := by
          show (if k < 1 ∨ b.n < k then _ else if b.torn.contains k = false then _ else _) = _
          rw [if_neg hneg, if_pos hc]
        rw [e] at h
        exact h.same B (Same.refl H) hq
      | true =>
        refine iteF ?_
        have e : Ux06.step b (.put k) = ({ b with torn := b.torn.filter fun x => x != k }, Ux06.pages k) := by
          show (if k < 1 ∨ b.n < k then _ else if b.torn.contains k = false then _ else _) = _
          rw [if_neg hneg, if_neg (by rw [hc]; decide)]
        rw [e] at h
        have hkm : k ∈ b.torn := by simpa using hc
        have hkt : k ∈ ts := hperm.mem_iff.mpr hkm
        refine ⟨_, rfl, p, C, dx, _, _, rfl, hp, T.cl, T.nT, bf_torn _ _, .inl ⟨rfl, _, SqL.of hl⟩, _, rfl, l, Ux06.ints ts, (k : Int), rfl, rfl, hl, mem_ints hkt, ?_⟩
        refine ⟨_, rfl, (k : Int), rfl, fun q hq => ?_⟩
        have hlq : l ≠ q := ne_of_none upd_same hq
        have hq0 : H q = none := by rw [upd_ne (Ne.symm hlq)] at hq; exact hq
        rw [iv_pages hh.1, ints_erase]
        refine h _ q l hq0 upd_same ⟨⟨dx, ts.erase k, ?_, ?_, ?_⟩, B.ok.put k⟩ (Ne.symm hlq) (.inl rfl) fun a o e _ ha => ?_
        · rw [upd_ne (ne_of_none hp hq0), upd_ne B.ne]
          exact hp
        · rw [upd_ne hlq, upd_same]
        · show (ts.erase k).Perm (b.torn.filter fun x => x != k)
          rw [← B.ok.nodup.erase_eq_filter]
          exact hperm.erase k
        · rw [upd_ne (ne_of_none e hq0), upd_ne ha]
          exact e
    · rw [decide_eq_false hh]
      refine iteT ⟨(by show 1 ≤ sizeLine; decide), fun q hq => ?_⟩
      have e : Ux06.step b (.put k) = (b, [-2]) := by
        show (if k < 1 ∨ b.n < k then _ else _) = _
        rw [if_pos (by omega)]
      rw [e] at h
      exact h.same B (Same.refl H) hq
/-! ### Book.shows -/
abbrev s_shows : Stmt := inClass (top 21) 7
theorem SC_shows : FnScope ["self"] ["self"] (defScope s_shows) := ⟨rfl, rfl, rfl, by decide +kernel, rfl, by decide +kernel, by decide +kernel⟩
theorem ints_rise {l : List Nat} (h : l.Pairwise (· < ·)) : (Ux06.ints l).Pairwise (· ≤ ·) := by
  unfold Ux06.ints
  exact List.pairwise_map.mpr (h.imp fun h => by omega)
theorem sorted_torn {b : Ux06.Book} (ok : Ok b) {ts : List Nat} (hp : ts.Perm b.torn) {ns : List Int} (h1 : ns.Perm (Ux06.ints ts)) (h2 : ns.Pairwise (· ≤ ·)) : ns = Ux06.ints b.torn :=
  List.Perm.eq_of_pairwise (fun _ _ _ _ => Int.le_antisymm) h2 (ints_rise ok.rise) (h1.trans (hp.map _))
theorem ok_shows {f C nb : Addr} {fd : FuncData} (F : Fun K "shows" "Book.shows" s_shows f fd) (T : Txt K mg C nb) : FnOk P w K mg base CX0 1 f fd ["self"] (sp0 C .shows) := by
  refine F.ok SC_shows (fun vs H Q E h => ?_) (fun cdv A outer s H vs Q E hr h => ?_)
  · obtain ⟨p, l, b, rfl, _⟩ := h
    rfl
  · obtain ⟨p, l, b, rfl, B, h⟩ := h
    refine ⟨_, (pss_one (ps_ret (pe_op op_cat (pe_lst (pa_cons (pe_callB call_len_seq rfl T.len boot_len (pa_cons (pe_fld (pv 0) rfl) pa_nil)) pa_nil)) (pe_callB cr_sorted rfl T.sorted boot_sorted (pa_cons (pe_fld (pv 0) rfl) pa_nil))))), ?_⟩
    obtain ⟨dx, ts, hp, hl, hperm⟩ := id B.ex
    have hlen : ts.length ≤ 30 := by rw [hperm.length_eq]; exact Nat.le_trans B.ok.len B.ok.hi
    refine ⟨_, rfl, p, C, dx, _, _, rfl, hp, T.cl, T.nT, bf_torn _ _, l, iv ts, rfl, .inl (SqL.of hl), (by show 1 ≤ sizeLine; decide), fun q1 hq1 => ?_⟩
    have S1 : Same H (upd H q1 (.lst [V.int ((iv ts).length : Int)])) := Same.new hq1
    refine ⟨_, rfl, p, C, dx, _, _, rfl, S1 _ _ hp, T.cl, T.nT, bf_torn _ _, l, Ux06.ints ts, rfl, SqL.of (S1 _ _ hl), (by unfold Ux06.ints; rw [List.length_map]; omega), fun ns q2 h1 h2 hq2 => ?_⟩
    have S2 : Same (upd H q1 (.lst [V.int ((iv ts).length : Int)])) (upd (upd H q1 (.lst [V.int ((iv ts).length : Int)])) q2 (.lst (ns.map V.int))) := Same.new hq2
    refine ⟨q1, q2, _, _, rfl, rfl, S2 _ _ upd_same, upd_same, ?_, fun q hq => ?_⟩
    · show 1 + (ns.map V.int).length ≤ sizeLine
      rw [List.length_map, h1.length_eq]
      unfold Ux06.ints
      rw [List.length_map]
      exact Nat.le_trans (show 1 + ts.length ≤ 31 by omega) (by decide)
    · have e1 := sorted_torn B.ok hperm h1 h2
      have e2 : ([V.int ((iv ts).length : Int)] ++ ns.map V.int : List V) = (Ux06.counted b.torn).map V.int := by
        rw [e1, iv_len, hperm.length_eq]
        rfl
      rw [e2]
      exact h.same B (S1.trans S2) hq
theorem upFrom_leaves (n : Nat) : (upFrom 1 ((n : Int) + 1 - 1).toNat).map V.int = iv (leaves n) := by
  have e : ((n : Int) + 1 - 1).toNat = n := by omega
  rw [e]
  unfold upFrom iv Ux06.ints leaves
  rw [List.map_map, List.map_map, List.map_map]
  refine List.map_congr_left fun k _ => ?_
  show V.int (1 + (k : Int)) = V.int ((k + 1 : Nat) : Int)
  rw [show (1 + (k : Int)) = ((k + 1 : Nat) : Int) by omega]
/-! ### Book.can -/
abbrev s_can : Stmt := inClass (top 21) 9
theorem SC_can : FnScope ["self", "size", "pages"] ["self", "size", "pages"] (defScope s_can) := ⟨rfl, rfl, rfl, by decide +kernel, rfl, by decide +kernel, by decide +kernel⟩
theorem ok_can {f C nb : Addr} {fd : FuncData} (F : Fun K "can" "Book.can" s_can f fd) (T : Txt K mg C nb) (F_set_exists : FnAt P w K mg base "set_exists" 2 ["leaves", "size", "pages"] spExists) :
    FnOk P w K mg base CX0 3 f fd ["self", "size", "pages"] (sp2 C .can) := by
  refine F.ok SC_can (fun vs H Q E h => ?_) (fun cdv A outer s H vs Q E hr h => ?_)
  · obtain ⟨p, l, b, m, t, rfl, _⟩ := h
    rfl
  · obtain ⟨p, l, b, m, t, rfl, hm, ht, B, h⟩ := h
    refine ⟨_, (pss_cons (ps_if (pt_cmpR op_gt (pv 1) (pe_fld (pv 0) rfl) (nomark _))
        (pss_one (ps_ret (pe_lst (pa_cons (pe_gl rfl T.c_OUT_OF_RANGE) pa_nil))))
        pss_nil)
      (pss_cons (ps_if (pt_val (pe_fn F_set_exists (hr.mono (by decide)) rfl (pa_cons (pe_fld (pv 0) rfl) (pa_cons (pv 1) (pa_cons (pv 2) pa_nil)))))
        (pss_one (ps_ret (pe_lst (pa_cons pe_int pa_nil))))
        pss_nil)
      (pss_one (ps_ret (pe_lst (pa_cons pe_int pa_nil)))))), ?_⟩
    obtain ⟨dx, ts, hp, hl, hperm⟩ := id B.ex
    refine ⟨_, rfl, _, rfl, p, C, dx, _, _, rfl, hp, T.cl, T.nL, bf_leaves _ _, _, _, rfl, rfl, _, rfl, ?_⟩
    refine ite2 (fun h1 => ?_) (fun h1 => ?_)
    · have h1' := of_decide_eq_true h1
      have e : Ux06.step b (.can m t) = (b, [-1]) := by
        show (b, if b.n < m then _ else _) = _
        rw [if_pos (by omega)]
      rw [e] at h
      exact ⟨(by show 1 ≤ sizeLine; decide), fun q hq => h.same B (Same.refl H) hq⟩
    · have h1' : ¬ b.n < m := fun z => h1 (decide_eq_true (by omega))
      have e : Ux06.step b (.can m t) = (b, Ux06.ints [Ux06.flag (decide (Wn (leaves b.n) m t ≠ 0))]) := by
        show (b, if b.n < m then _ else _) = _
        rw [if_neg h1', can_eq b.n m t B.ok.hi]
      rw [e] at h
      refine ⟨_, rfl, p, C, dx, _, _, rfl, hp, T.cl, T.nL, bf_leaves _ _, _, rfl, _, rfl, b.n, m, t, rfl, hm, _, rfl, ?_⟩
      cases hw : decide (Wn (leaves b.n) m t ≠ 0) with
      | true =>
        rw [hw] at h
        exact iteT ⟨(by show 1 ≤ sizeLine; decide), fun q hq => h.same B (Same.refl H) hq⟩
      | false =>
        rw [hw] at h
        exact iteF ⟨(by show 1 ≤ sizeLine; decide), fun q hq => h.same B (Same.refl H) hq⟩
/-! ### Book.first -/
abbrev s_first : Stmt := inClass (top 21) 10
theorem SC_first : FnScope ["self", "size", "pages"] ["self", "size", "pages"] (defScope s_first) := ⟨rfl, rfl, rfl, by decide +kernel, rfl, by decide +kernel, by decide +kernel⟩
theorem ok_first {f C nb : Addr} {fd : FuncData} (F : Fun K "first" "Book.first" s_first f fd) (T : Txt K mg C nb) (F_set_exists : FnAt P w K mg base "set_exists" 2 ["leaves", "size", "pages"] spExists)
    (F_leaf_total : FnAt P w K mg base "leaf_total" 1 ["size", "pages"] spTotal) (F_first_set : FnAt P w K mg base "first_set" 2 ["leaves", "size", "total"] spFirstSet) :
    FnOk P w K mg base CX0 3 f fd ["self", "size", "pages"] (sp2 C .first) := by
  refine F.ok SC_first (fun vs H Q E h => ?_) (fun cdv A outer s H vs Q E hr h => ?_)
  · obtain ⟨p, l, b, m, t, rfl, _⟩ := h
    rfl
  · obtain ⟨p, l, b, m, t, rfl, hm, ht, B, h⟩ := h
    refine ⟨_, (pss_cons (ps_if (pt_cmpR op_gt (pv 1) (pe_fld (pv 0) rfl) (nomark _))
        (pss_one (ps_ret (pe_lst (pa_cons (pe_gl rfl T.c_OUT_OF_RANGE) pa_nil))))
        pss_nil)
      (pss_cons (ps_if (pt_not (pt_val (pe_fn F_set_exists (hr.mono (by decide)) rfl (pa_cons (pe_fld (pv 0) rfl) (pa_cons (pv 1) (pa_cons (pv 2) pa_nil))))))
        (pss_one (ps_ret (pe_lst (pa_cons (pe_gl rfl T.c_NOT_THERE) pa_nil))))
        pss_nil)
      (pss_one (ps_ret (pe_op op_cat (pe_lst (pa_cons (pv 1) pa_nil)) (pe_fn F_first_set (hr.mono (by decide)) rfl (pa_cons (pe_fld (pv 0) rfl) (pa_cons (pv 1) (pa_cons (pe_fn F_leaf_total (hr.mono (by decide)) rfl (pa_cons (pv 1) (pa_cons (pv 2) pa_nil))) pa_nil))))))))), ?_⟩
    obtain ⟨dx, ts, hp, hl, hperm⟩ := id B.ex
    have hn := B.ok.hi
    refine ⟨_, rfl, _, rfl, p, C, dx, _, _, rfl, hp, T.cl, T.nL, bf_leaves _ _, _, _, rfl, rfl, _, rfl, ?_⟩
    refine ite2 (fun h1 => ?_) (fun h1 => ?_)
    · have h1' := of_decide_eq_true h1
      have e : Ux06.step b (.first m t) = (b, [-1]) := by
        show (b, if b.n < m then _ else _) = _
        rw [if_pos (by omega)]
      rw [e] at h
      exact ⟨(by show 1 ≤ sizeLine; decide), fun q hq => h.same B (Same.refl H) hq⟩
    · have h1' : ¬ b.n < m := fun z => h1 (decide_eq_true (by omega))
      have e : Ux06.step b (.first m t) = (b, match (if Wn (leaves b.n) m t = 0 then none else some (Fs (leaves b.n) m t)) with | none => [-6] | some l => Ux06.counted l) := by
        show (b, if b.n < m then _ else _) = _
        rw [if_neg h1', first_top b.n m t hn]
        rfl
      rw [e] at h
      refine ⟨_, rfl, p, C, dx, _, _, rfl, hp, T.cl, T.nL, bf_leaves _ _, _, rfl, _, rfl, b.n, m, t, rfl, hm, _, rfl, ?_⟩
      by_cases hw : Wn (leaves b.n) m t ≠ 0
      · rw [if_neg hw] at h
        refine iteNS hw ?_
        obtain ⟨h4, hr4⟩ := (exists_iff b.n m t).mp hw
        refine ⟨_, rfl, (by show 1 ≤ sizeLine; decide), fun q1 hq1 => ?_⟩
        have S1 : Same H (upd H q1 (.lst [V.int (m : Int)])) := Same.new hq1
        refine ⟨_, rfl, p, C, dx, _, _, rfl, S1 _ _ hp, T.cl, T.nL, bf_leaves _ _, _, rfl, _, rfl, _, rfl, _, _, rfl, ?_⟩
        refine ⟨b.n, m, (t + m) / 4, ?_, by omega, hm, fun H2 q2 S2 hq2 hH2 => ?_⟩
        · rw [show ((t : Int) + (m : Int)) / 4 = (((t + m) / 4 : Nat) : Int) by omega]
          rfl
        · rw [← F_leaves b.n m t h4] at hH2
          have hFl := F_len (leaves b.n) m t hw
          refine ⟨q1, q2, _, _, rfl, rfl, S2 _ _ upd_same, hH2, ?_, fun q hq => ?_⟩
          · rw [iv_len, hFl]
            show 1 + m ≤ sizeLine
            exact Nat.le_trans (show 1 + m ≤ 31 by omega) (by decide)
          · have e2 : ([V.int (m : Int)] ++ iv (Fs (leaves b.n) m t) : List V) = (Ux06.counted (Fs (leaves b.n) m t)).map V.int := by
              unfold Ux06.counted
              rw [hFl]
              rfl
            rw [e2]
            exact h.same B (S1.trans S2) hq
      · have hw0 : Wn (leaves b.n) m t = 0 := Decidable.not_not.mp hw
        rw [if_pos hw0] at h
        rw [decide_eq_false hw]
        exact iteT ⟨(by show 1 ≤ sizeLine; decide), fun q hq => h.same B (Same.refl H) hq⟩
end
end Tl

set_option Elab.async false
set_option linter.all false
set_option maxRecDepth 100000
set_option maxHeartbeats 4000000
namespace Tl
open PySem PySem.Spec PyProof.Rows L2
open Ux06 (worth leaves)
/-! ### tables as the program's dicts -/
def kk (a b : Int) : List Key := [.inl a, .inl b]
def DV (es : List Ent) : List (List Key × V) := es.map fun e => (kk (e.1.1 : Int) (e.1.2 : Int), V.int (e.2 : Int))
theorem kk_inj {a b c d : Int} (h : kk a b = kk c d) : a = c ∧ b = d := by
  unfold kk at h
  injection h with h1 h2
  injection h2 with h3 _
  exact ⟨Sum.inl.inj h1, Sum.inl.inj h3⟩
theorem kk_nat {p : Nat × Nat} {m s : Nat} : kk (p.1 : Int) (p.2 : Int) = kk (m : Int) (s : Int) ↔ p = (m, s) := by
  constructor
  · intro h
    have := kk_inj h
    exact Prod.ext (by show p.1 = m; omega) (by show p.2 = s; omega)
  · rintro rfl
    rfl
theorem valV_DV : ∀ (es : List Ent) (m s : Nat), valV (DV es) (kk (m : Int) (s : Int)) = (gv es (m, s)).map fun c => V.int (c : Int)
  | [], _, _ => rfl
  | e :: r, m, s => by
    by_cases h : e.1 = (m, s)
    · have h' : kk (e.1.1 : Int) (e.1.2 : Int) = kk (m : Int) (s : Int) := kk_nat.mpr h
      rw [gv_pos h]
      exact valV_pos (p := (kk (e.1.1 : Int) (e.1.2 : Int), V.int (e.2 : Int))) h'
    · have h' : ¬ kk (e.1.1 : Int) (e.1.2 : Int) = kk (m : Int) (s : Int) := fun z => h (kk_nat.mp z)
      rw [gv_neg h]
      exact (valV_neg (p := (kk (e.1.1 : Int) (e.1.2 : Int), V.int (e.2 : Int))) h').trans (valV_DV r m s)
theorem valV_low : ∀ (es : List Ent) (a b : Int), ¬ (0 ≤ a ∧ 0 ≤ b) → valV (DV es) (kk a b) = none
  | [], _, _, _ => rfl
  | e :: r, a, b, h => by
    have h' : ¬ kk (e.1.1 : Int) (e.1.2 : Int) = kk a b := fun z => by
      have := kk_inj z
      omega
    exact (valV_neg (p := (kk (e.1.1 : Int) (e.1.2 : Int), V.int (e.2 : Int))) h').trans (valV_low r a b h)
theorem any_DV (es : List Ent) (m s : Nat) : ((DV es).any fun kv => decide (kv.1 = kk (m : Int) (s : Int))) = (es.any fun e => decide (e.1 = (m, s))) := by
  unfold DV
  rw [List.any_map]
  congr 1
  funext e
  show decide (kk (e.1.1 : Int) (e.1.2 : Int) = kk (m : Int) (s : Int)) = decide (e.1 = (m, s))
  exact decide_eq_decide.mpr kk_nat
theorem putK_DV (es : List Ent) (m s c : Nat) : putK (DV es) (kk (m : Int) (s : Int)) (V.int (c : Int)) = DV (putE es (m, s) c) := by
  unfold putK putE
  rw [any_DV]
  by_cases h : (es.any fun e => decide (e.1 = (m, s))) = true
  · rw [if_pos h, if_pos h]
    unfold DV
    rw [List.map_map, List.map_map]
    refine List.map_congr_left fun e _ => ?_
    show (if kk (e.1.1 : Int) (e.1.2 : Int) = kk (m : Int) (s : Int) then (kk (e.1.1 : Int) (e.1.2 : Int), V.int (c : Int)) else (kk (e.1.1 : Int) (e.1.2 : Int), V.int (e.2 : Int))) = _
    by_cases q : e.1 = (m, s)
    · rw [if_pos (kk_nat.mpr q)]
      show _ = (fun e : Ent => (kk (e.1.1 : Int) (e.1.2 : Int), V.int (e.2 : Int))) (if e.1 = (m, s) then (e.1, c) else e)
      rw [if_pos q]
    · rw [if_neg (fun z => q (kk_nat.mp z))]
      show _ = (fun e : Ent => (kk (e.1.1 : Int) (e.1.2 : Int), V.int (e.2 : Int))) (if e.1 = (m, s) then (e.1, c) else e)
      rw [if_neg q]
  · rw [if_neg h, if_neg h]
    unfold DV
    rw [List.map_append]
    rfl
theorem DV_len (es : List Ent) : (DV es).length = es.length := List.length_map ..
theorem DV_at {es : List Ent} {i : Nat} {k : List Key} {v : V} (h : (DV es)[i]? = some (k, v)) : ∃ a b c, es[i]? = some ((a, b), c) ∧ k = kk (a : Int) (b : Int) ∧ v = V.int (c : Int) := by
  unfold DV at h
  rw [List.getElem?_map] at h
  cases e : es[i]? with
  | none => rw [e] at h; cases h
  | some x =>
    rw [e] at h
    obtain ⟨⟨a, b⟩, c⟩ := x
    have := Option.some.inj h
    injection this with h1 h2
    exact ⟨a, b, c, rfl, h1.symm, h2.symm⟩
theorem tab_val {f : Nat → Nat → Nat} {es : List Ent} (t : Tab f es) (m s : Nat) : valV (DV es) (kk (m : Int) (s : Int)) = if f m s = 0 then none else some (V.int (f m s : Int)) := by
  rw [valV_DV, t.val]
  by_cases h : f m s = 0
  · rw [if_pos h, if_pos h]; rfl
  · rw [if_neg h, if_neg h]; rfl
theorem tab_get {f : Nat → Nat → Nat} {es : List Ent} (t : Tab f es) (m s : Nat) : (valV (DV es) (kk (m : Int) (s : Int))).getD (V.int 0) = V.int (f m s : Int) := by
  rw [tab_val t]
  by_cases h : f m s = 0
  · rw [if_pos h, h]; rfl
  · rw [if_neg h]; rfl
theorem tab_is {f : Nat → Nat → Nat} {es : List Ent} (t : Tab f es) (a b : Int) : (valV (DV es) (kk a b)).isSome = decide (0 ≤ a ∧ 0 ≤ b ∧ f a.toNat b.toNat ≠ 0) := by
  by_cases h : 0 ≤ a ∧ 0 ≤ b
  · have e1 : a = ((a.toNat : Nat) : Int) := by omega
    have e2 : b = ((b.toNat : Nat) : Int) := by omega
    have q : valV (DV es) (kk a b) = valV (DV es) (kk ((a.toNat : Nat) : Int) ((b.toNat : Nat) : Int)) := by rw [← e1, ← e2]
    rw [q, tab_val t]
    by_cases z : f a.toNat b.toNat = 0
    · rw [if_pos z, decide_eq_false (fun w => w.2.2 z)]; rfl
    · rw [if_neg z, decide_eq_true ⟨h.1, h.2, z⟩]; rfl
  · rw [valV_low es a b h, decide_eq_false (fun w => h ⟨w.1, w.2.1⟩)]; rfl
theorem tab_hash {P : Program} {w : World} {f : Nat → Nat → Nat} {es : List Ent} (t : Tab f es) (hb : ∀ m s, f m s ≠ 0 → m ≤ 30 ∧ s ≤ 1830) : ((DV es).map fun kv => (tupleKind (mixKind P w)).hash kv.1).Nodup := by
  have e : ((DV es).map fun kv => (tupleKind (mixKind P w)).hash kv.1) = (es.map (·.1)).map fun p : Nat × Nat => reduceHash (Builtin.Tuple.tupleHashOf [hashInt (p.1 : Int), hashInt (p.2 : Int)]) := by
    unfold DV
    rw [List.map_map, List.map_map]
    rfl
  rw [e]
  have hk : ∀ k ∈ es.map (·.1), k.1 ≤ 30 ∧ k.2 ≤ 1830 := fun k hk => by
    obtain ⟨e, he, rfl⟩ := List.mem_map.mp hk
    have q := t.mem he
    exact hb _ _ (by rw [q.1]; exact q.2)
  refine nodup_inj _ _ t.nd fun a ha b hb' h => ?_
  have h1 := hk a ha
  have h2 := hk b hb'
  have := key_hash_inj a.1 a.2 b.1 b.2 (by omega) (by omega) (by omega) (by omega) h
  exact Prod.ext this.1 this.2
theorem tab_ne {l : List Nat} {es : List Ent} (t : Tab (Wn l) es) : DV es ≠ [] := fun z => by
  have e : es = [] := by
    unfold DV at z
    exact List.map_eq_nil_iff.mp z
  have q := t.val 0 0
  rw [e, W_zero, if_pos rfl] at q
  rw [if_neg (by decide)] at q
  cases q
theorem tup_nat (m s : Nat) {x y : Int} (hx : x = (m : Int)) (hy : y = (s : Int)) : ([V.int x, V.int y] : List V) = (kk (m : Int) (s : Int)).map kV := by
  rw [hx, hy]
  rfl
theorem atI_end {xs : List V} {v : V} (h : xs[xs.length - 1]? = some v) (h0 : 0 < xs.length) : atI xs (-1) = some v := by
  have hne : xs ≠ [] := List.length_pos_iff.mp h0
  have e1 := (List.dropLast_concat_getLast hne).symm
  have e2 : xs.getLast hne = v := by
    rw [List.getLast_eq_getElem]
    exact (List.getElem?_eq_some_iff.mp h).2
  rw [e2] at e1
  rw [e1]
  exact atI_last _ _
section
variable {P : Program} {w : World} {K : PySem.W.Frag} {mg : Str → Option Value} {base : Heap}
/-! ### counts_with -/
abbrev s_counts_with : Stmt := top 29
theorem SC_counts_with : FnScope ["counts", "leaf", "grown", "added", "key", "larger"] ["counts", "leaf"] (defScope s_counts_with) := ⟨rfl, rfl, rfl, by decide +kernel, rfl, by decide +kernel, by decide +kernel⟩
def spCountsWith : Sp := fun vs H Q _ => ∃ (d : Addr) (k : Nat) (l : List Nat) (es : List Ent), vs = [.ref d, .int (k : Int)] ∧ H d = some (.dT (DV es)) ∧ Tab (Wn l) es ∧ 1 ≤ k ∧ (k :: l).length ≤ 30 ∧ ((k :: l).map worth).sum ≤ 1830 ∧
  ∀ (H' : Hp) (q : Addr) (es' : List Ent), Same H H' → H q = none → H' q = some (.dT (DV es')) → Tab (Wn (k :: l)) es' → Q (.ref q) H'
theorem ok_counts_with {f C nb : Addr} {fd : FuncData} (F : Fun K "counts_with" "counts_with" s_counts_with f fd) (T : Txt K mg C nb) (F_sum_of_pages : FnAt P w K mg base "sum_of_pages" 2 ["leaves"] (spSum K)) :
    FnOk P w K mg base CX0 3 f fd ["counts", "leaf"] spCountsWith := by
  refine F.ok SC_counts_with (fun vs H Q E h => ?_) (fun cdv A outer s H vs Q E hr h => ?_)
  · obtain ⟨d, k, l, es, rfl, _⟩ := h
    rfl
  · obtain ⟨d, k, l, es, rfl, hd, t, hk, hlen, hsum, kont⟩ := h
    refine ⟨_, (pss_cons (ps_set (i := 2) SC_counts_with.nd rfl (Or.inl rfl) (pe_callTy call_dict_T rfl T.dict boot_dict (pa_cons (pv 0) pa_nil)))
      (pss_cons (ps_set (i := 3) SC_counts_with.nd rfl (Or.inl rfl) (pe_fn F_sum_of_pages (hr.mono (by decide)) rfl (pa_cons (pe_lst (pa_cons (pv 1) pa_nil)) pa_nil)))
      (pss_cons (ps_lock (ps_for PassesOwn.never rfl (pi_keys (pv 0)) (pg_name (i := 4) SC_counts_with.nd rfl (Or.inl rfl))
        (pss_cons (ps_set (i := 5) SC_counts_with.nd rfl (Or.inl rfl) (pe_tup (pa_cons (pe_op op_add (pe_ix ix_tup (pv 4) pe_int (fun _ _ => rfl)) pe_int) (pa_cons (pe_op op_add (pe_ix ix_tup (pv 4) pe_int (fun _ _ => rfl)) (pv 3)) pa_nil))))
      (pss_one (ps_dput (hu_of hr) (pv 2) (pv 5) (pe_op op_add (pe_dget2 (hu_of hr) (pv 2) (pv 5) pe_int ⟨rfl, rfl, rfl, rfl⟩) (pe_dget (hu_of hr) (pv 0) (pv 4) (fun _ _ => rfl))) rfl)))))
      (pss_one (ps_ret (pv 2)))))), ?_⟩
    have bnd : ∀ i m s, fi l k es i m s ≠ 0 → m ≤ 30 ∧ s ≤ 1830 := fun i m s z => W_bound hlen hsum m s (fun y => z (Nat.le_zero.mp (y ▸ fi_le t i m s)))
    have bnd0 : ∀ m s, Wn l m s ≠ 0 → m ≤ 30 ∧ s ≤ 1830 := fun m s z => bnd 0 m s (by rw [fi_zero]; exact z)
    -- grown = dict(counts)
    refine ⟨_, rfl, d, DV es, rfl, hd, tab_ne t, tab_hash t bnd0, fun g hg => ?_⟩
    have hdg : d ≠ g := ne_of_none hd hg
    have S1 : Same H (upd H g (.dT (DV es))) := Same.new hg
    -- added = sum_of_pages([leaf])
    refine ⟨_, rfl, (by show 1 ≤ sizeLine; decide), fun q1 hq1 => ⟨q1, [k], rfl, SqL.of upd_same, (show 1 ≤ 1000 by decide), (fun x hx => (List.mem_singleton.mp hx) ▸ hk), fun H2 S2 => ?_⟩⟩
    have S12 : Same (upd H g (.dT (DV es))) H2 := (Same.new hq1).trans S2
    have hd2 : H2 d = some (.dT (DV es)) := S12 _ _ (S1 _ _ hd)
    have hg2 : H2 g = some (.dT (DV es)) := S12 _ _ upd_same
    -- for key in counts
    refine ⟨d, .dT (DV es), hd2, True.intro, fun od => ?_⟩
    refine ⟨_, rfl, d, od, rfl, .inr ⟨DV es, upd_same, ?_⟩⟩
    refine for_keysT (fun i σ H' => ∃ (gs : List Ent) (v4 v5 : Option V), σ = [some (.ref d), some (.int (k : Int)), some (.ref g), some (.int ((Ux06.sum [k] : Nat) : Int)), v4, v5] ∧
      H' d = some (.frz od (.dT (DV es))) ∧ H' g = some (.dT (DV gs)) ∧ Tab (fi l k es i) gs ∧ (∀ b o, H b = some o → b ≠ d → H' b = some o))
      ⟨es, none, none, rfl, upd_same, (by rw [upd_ne (Ne.symm hdg)]; exact hg2), (by rw [fi_zero']; exact t), fun b o e hb => (by rw [upd_ne hb]; exact S12 _ _ (S1 _ _ e))⟩ ?_ ?_ ?_
    · rintro i σ H' _ ⟨gs, v4, v5, rfl, h1, _⟩
      exact h1
    · rintro i key v q σ H' hkv hq ⟨gs, v4, v5, rfl, h1, h2, tg, h4⟩
      obtain ⟨a, b, c, hes, rfl, rfl⟩ := DV_at hkv
      -- larger = (key[0] + 1, key[1] + added)
      refine ⟨_, rfl, q, _, _, _, rfl, rfl, SqT.of hq, atI_nat (j := 0) rfl, _, _, rfl, rfl, _, rfl, q, _, _, _, rfl, rfl, SqT.of hq, atI_nat (j := 1) rfl, _, rfl, _, _, rfl, rfl, (by show 2 ≤ sizeLine; decide), fun r hr' => ?_⟩
      have ek : ([V.int ((a : Int) + 1), V.int ((b : Int) + ((Ux06.sum [k] : Nat) : Int))] : List V) = (kk ((a + 1 : Nat) : Int) ((b + worth k : Nat) : Int)).map kV := tup_nat _ _ (by omega) (by rw [sum_one]; omega)
      have hrr : upd H' r (.tup [V.int ((a : Int) + 1), V.int ((b : Int) + ((Ux06.sum [k] : Nat) : Int))]) r = some (.tup ((kk ((a + 1 : Nat) : Int) ((b + worth k : Nat) : Int)).map kV)) := by rw [upd_same, ek]
      have hrg : g ≠ r := ne_of_none h2 hr'
      have hrd : d ≠ r := ne_of_none h1 hr'
      have hrq : q ≠ r := ne_of_none hq hr'
      have hlg : gs.length ≤ 56761 := tg.len (bnd i)
      have hgv : some (V.int (c : Int)) = valV (DV es) (kk (a : Int) (b : Int)) := by
        rw [valV_DV, show gv es (a, b) = some c from gv_mem t.nd (e := ((a, b), c)) (List.mem_of_getElem? hes)]
        rfl
      -- grown[larger] = grown.get(larger, 0) + counts[key]
      refine ⟨_, rfl, g, rfl, .inr ⟨_, .inl (by rw [upd_ne hrg]; exact h2)⟩, _, rfl, _, DGet.t (by rw [upd_ne hrg]; exact h2) hrr, _, rfl, _, rfl, d, _, rfl, .inr ⟨DV es, kk (a : Int) (b : Int), q, .inr ⟨od, by rw [upd_ne hrd]; exact h1⟩, rfl, (by rw [upd_ne hrq]; exact hq), hgv⟩, _, _, tab_get tg _ _, rfl, ?_⟩
      refine ⟨_, rfl, _, rfl, g, _, rfl, DPut.t (by rw [upd_ne hrg]; exact h2) hrr (by rw [DV_len]; exact Nat.lt_of_le_of_lt hlg (by decide)), ?_⟩
      refine ⟨putE gs (a + 1, b + worth k) (fi l k es i (a + 1) (b + worth k) + c), some (.ref q), some (.ref r), rfl, ?_, ?_, t.turn hes tg, fun b' o e hb => ?_⟩
      · rw [upd_ne hdg, upd_ne hrd]
        exact h1
      · rw [upd_same]
        show some (HO.dT (putK (DV gs) (kk ((a + 1 : Nat) : Int) ((b + worth k : Nat) : Int)) (V.int (((fi l k es i (a + 1) (b + worth k) : Nat) : Int) + (c : Int))))) = _
        rw [show (((fi l k es i (a + 1) (b + worth k) : Nat) : Int) + (c : Int)) = ((fi l k es i (a + 1) (b + worth k) + c : Nat) : Int) by omega, putK_DV]
      · rw [upd_ne (ne_of_none e hg), upd_ne (ne_of_none (h4 _ _ e hb) hr')]
        exact h4 _ _ e hb
    · rintro σ H' ⟨gs, v4, v5, rfl, h1, h2, tg, h4⟩
      refine ⟨h1, _, rfl, ?_⟩
      rw [DV_len, fi_all t] at tg
      refine kont _ g gs (fun b o e => ?_) hg (by rw [upd_ne (Ne.symm hdg)]; exact h2) tg
      by_cases hb : b = d
      · subst hb
        rw [hd] at e
        cases e
        exact upd_same
      · rw [upd_ne hb]
        exact h4 _ _ e hb
end
end Tl

set_option Elab.async false
set_option linter.all false
set_option maxRecDepth 100000
set_option maxHeartbeats 4000000
namespace Tl
open PySem PySem.Spec PyProof.Rows L2
open Ux06 (worth leaves)
section
variable {P : Program} {w : World} {K : PySem.W.Frag} {mg : Str → Option Value} {base : Heap}
/-! ### set_counts -/
abbrev s_set_counts : Stmt := top 28
theorem SC_set_counts : FnScope ["leaves", "told", "leaf"] ["leaves"] (defScope s_set_counts) := ⟨rfl, rfl, rfl, by decide +kernel, rfl, by decide +kernel, by decide +kernel⟩
/-- the tables of the last 0, 1, 2 .. of the leaves -/
def TabsAt (H : Hp) (ds : List Addr) (ls : List Nat) : Prop := ∀ j d, ds[j]? = some d → ∃ es, H d = some (.dT (DV es)) ∧ Tab (Wn (ls.drop (ls.length - j))) es
theorem TabsAt.same {H H' : Hp} {ds : List Addr} {ls : List Nat} (h : TabsAt H ds ls) (S : Same H H') : TabsAt H' ds ls := fun j d e => by
  obtain ⟨es, h1, h2⟩ := h j d e
  exact ⟨es, S _ _ h1, h2⟩
def spSetCounts (K : PySem.W.Frag) : Sp := fun vs H Q _ => ∃ (a : Addr) (ls : List Nat), vs = [.ref a] ∧ SqL K H a (iv ls) ∧ ls.length ≤ 30 ∧ (∀ k ∈ ls, 1 ≤ k) ∧ (ls.map worth).sum ≤ 1830 ∧
  ∀ (H' : Hp) (q : Addr) (ds : List Addr), Same H H' → H q = none → H' q = some (.lst (ds.map V.ref)) → ds.length = ls.length + 1 → TabsAt H' ds ls → Q (.ref q) H'
theorem sum_drop (ls : List Nat) (i : Nat) : ((ls.drop i).map worth).sum ≤ (ls.map worth).sum := by
  have e : ls.map worth = (ls.take i).map worth ++ (ls.drop i).map worth := by rw [← List.map_append, List.take_append_drop]
  rw [e, List.sum_append]
  omega
theorem ok_set_counts {f C nb : Addr} {fd : FuncData} (F : Fun K "set_counts" "set_counts" s_set_counts f fd) (T : Txt K mg C nb) (F_counts_with : FnAt P w K mg base "counts_with" 3 ["counts", "leaf"] spCountsWith) :
    FnOk P w K mg base CX0 4 f fd ["leaves"] (spSetCounts K) := by
  refine F.ok SC_set_counts (fun vs H Q E h => ?_) (fun cdv A outer s H vs Q E hr h => ?_)
  · obtain ⟨a, ls, rfl, _⟩ := h
    rfl
  · obtain ⟨a, ls, rfl, hS, hlen, hpos, hsum, kont⟩ := h
    refine ⟨_, (@pss_cons _ _ _ _ _ (@ps_set _ _ 1 _ _ _ _ SC_set_counts.nd rfl (Or.inl rfl) (@pe_lst _ _ _ _ (@pa_cons _ _ _ _ _ (@pe_dispT _ _ _ _ _ _ (hu_of hr) (@pe_tup _ _ _ _ _ (@pa_cons _ _ _ _ _ (@pe_int _ _ _ _) (@pa_cons _ _ _ _ _ (@pe_int _ _ _ _) (@pa_nil _) rfl) rfl)) (@pe_int _ _ _ _)) (@pa_nil _) rfl)) rfl (.inr rfl))
      (pss_cons (ps_for PassesOwn.never rfl (pi_reversed rfl T.reversed (pa_cons (pv 0) pa_nil)) (pg_name (i := 2) SC_set_counts.nd rfl (Or.inl rfl))
        (pss_one (ps_expr (pe_bm PySem.F.plainAttrs_list PySem.F.slot_list_append PySem.F.type_list_append mt_append (pv 1) (pa_cons (pe_fn F_counts_with (hr.mono (by decide)) rfl (pa_cons (pe_ix ix_list (pv 1) (pe_un un_neg pe_int) (fun _ _ => rfl)) (pa_cons (pv 2) pa_nil))) pa_nil)))))
      (pss_one (ps_ret (pv 1))))), ?_⟩
    -- told = [{(0, 0): 1}]
    intro d hd
    refine ⟨(by show 2 ≤ sizeLine; decide), fun r hr' => ?_⟩
    have hdr : d ≠ r := ne_of_none upd_same hr'
    have hr0 : H r = none := by rw [upd_ne (Ne.symm hdr)] at hr'; exact hr'
    refine ⟨(by rw [upd_ne hdr]; exact upd_same), r, kk 0 0, rfl, upd_same, ?_⟩
    refine ⟨(by show 1 ≤ sizeLine; decide), fun q hq => ?_⟩
    have S0 : Same H (upd (upd (upd H d (.dT [])) r (.tup [V.int 0, V.int 0])) d (.dT [(kk 0 0, V.int 1)])) := fun b o e => by
      rw [upd_ne (ne_of_none e hd), upd_ne (ne_of_none e hr0), upd_ne (ne_of_none e hd)]
      exact e
    have hq0 : H q = none := S0.free hq
    have S1 : Same H (upd (upd (upd (upd H d (.dT [])) r (.tup [V.int 0, V.int 0])) d (.dT [(kk 0 0, V.int 1)])) q (.lst [V.ref d])) := S0.trans (Same.new hq)
    have hdq : d ≠ q := ne_of_none upd_same hq
    -- for leaf in reversed(leaves)
    refine ⟨_, rfl, a, iv ls, rfl, S1.seq hS, ?_⟩
    refine for_rev (fun i σ H' => ∃ (ds : List Addr) (v2 : Option V), σ = [some (.ref a), some (.ref q), v2] ∧ Same H H' ∧ H' q = some (.lst (ds.map V.ref)) ∧ ds.length = i + 1 ∧ TabsAt H' ds ls)
      ⟨[d], none, rfl, S1, upd_same, rfl, ?_⟩ ?_ ?_ ?_
    · intro j d' hj
      cases j with
      | zero =>
        have e : d = d' := Option.some.inj hj
        subst e
        refine ⟨[((0, 0), 1)], ?_, ?_⟩
        · rw [upd_ne hdq]
          exact upd_same
        · rw [Nat.sub_zero, List.drop_length]
          exact tab_nil
      | succ j => cases hj
    · rintro i σ H' _ ⟨ds, v2, rfl, S, _⟩
      exact S.seq hS
    · rintro i x σ H' hi hx ⟨ds, v2, rfl, S, hq', hl, ht⟩
      rw [iv_len] at hi hx
      obtain ⟨k, hk, rfl⟩ := iv_at hx
      obtain ⟨di, hdl⟩ : ∃ d, ds[i]? = some d := ⟨_, List.getElem?_eq_getElem (by omega)⟩
      obtain ⟨es, hes, tes⟩ := ht i _ hdl
      have hlast : atI (ds.map V.ref) (-1) = some (V.ref di) := atI_end (by rw [List.length_map, hl, Nat.add_sub_cancel, List.getElem?_map, hdl]; rfl) (by rw [List.length_map]; omega)
      have hdrop : ls.drop (ls.length - (i + 1)) = k :: ls.drop (ls.length - i) := by
        have e1 : ls.length - (i + 1) = ls.length - 1 - i := by omega
        have e2 : ls.length - i = ls.length - 1 - i + 1 := by omega
        rw [e1, e2]
        exact drop_at hk
      refine ⟨_, rfl, .inl ⟨rfl, _, SqL.of hq'⟩, _, rfl, _, rfl, q, _, _, _, rfl, rfl, SqL.of hq', hlast, _, rfl, ?_⟩
      refine ⟨di, k, ls.drop (ls.length - i), es, rfl, hes, tes, hpos k (List.mem_of_getElem? hk), ?_, ?_, fun H2 g es' S2 hg hg2 tg => ?_⟩
      · rw [← hdrop, List.length_drop]
        omega
      · rw [← hdrop]
        exact Nat.le_trans (sum_drop ls _) hsum
      · have hq2 : H2 q = some (.lst (ds.map V.ref)) := S2 _ _ hq'
        have hgq : g ≠ q := fun z => by rw [z, hq'] at hg; cases hg
        refine ⟨q, _, _, rfl, rfl, hq2, (by rw [List.length_map, hl]; exact Nat.lt_of_le_of_lt (show i + 1 ≤ 31 by omega) (by decide)), ?_⟩
        refine ⟨ds ++ [g], some (V.int (k : Int)), rfl, fun b o e => ?_, ?_, ?_, fun j d' hj => ?_⟩
        · rw [upd_ne (ne_of_none e hq0)]
          exact S2 _ _ (S _ _ e)
        · rw [upd_same, List.map_append]
          rfl
        · rw [List.length_append, hl]
          rfl
        · have nq : ∀ e : Addr, ∀ o : HO, H2 e = some o → (∀ xs, o ≠ .lst xs) → upd H2 q (.lst (ds.map V.ref ++ [V.ref g])) e = some o := fun e o he hne => by
            have : e ≠ q := fun z => by
              rw [z, hq2] at he
              exact hne _ (Option.some.inj he).symm
            rw [upd_ne this]
            exact he
          by_cases hj' : j < ds.length
          · rw [List.getElem?_append_left hj'] at hj
            obtain ⟨es1, h1, h2⟩ := ht j d' hj
            exact ⟨es1, nq _ _ (S2 _ _ h1) (fun _ z => nomatch z), h2⟩
          · have hjl : j = i + 1 := by
              have := (List.getElem?_eq_some_iff.mp hj).1
              rw [List.length_append, List.length_singleton] at this
              omega
            subst hjl
            rw [List.getElem?_append_right (by omega), hl, Nat.sub_self] at hj
            have e : g = d' := Option.some.inj hj
            subst e
            refine ⟨es', nq _ _ hg2 (fun _ z => nomatch z), ?_⟩
            rw [hdrop]
            exact tg
    · rintro σ H' ⟨ds, v2, rfl, S, hq', hl, ht⟩
      rw [iv_len] at hl
      exact ⟨_, rfl, kont H' q ds S hq0 hq' hl ht⟩
end
end Tl

set_option Elab.async false
set_option linter.all false
set_option maxRecDepth 100000
set_option maxHeartbeats 4000000
namespace Tl
open PySem PySem.Spec PyProof.Rows L2
open Ux06 (worth leaves)
section
variable {P : Program} {w : World} {K : PySem.W.Frag} {mg : Str → Option Value} {base : Heap}
/-! ### first_counted -/
abbrev s_first_counted : Stmt := top 30
theorem SC_first_counted : FnScope ["leaves", "counts", "size", "pages", "chosen", "missing", "place", "leaf", "behind", "still_missing"] ["leaves", "counts", "size", "pages"] (defScope s_first_counted) := ⟨rfl, rfl, rfl, by decide +kernel, rfl, by decide +kernel, by decide +kernel⟩
def spFirstCounted (K : PySem.W.Frag) : Sp := fun vs H Q _ => ∃ (a t : Addr) (m s : Nat) (ls : List Nat) (ds : List Addr), vs = [.ref a, .ref t, .int (m : Int), .int (s : Int)] ∧ SqL K H a (iv ls) ∧ H t = some (.lst (ds.map V.ref)) ∧ ds.length = ls.length + 1 ∧ TabsAt H ds ls ∧
  ls.length ≤ 30 ∧ (∀ k ∈ ls, 1 ≤ k) ∧ ∀ (H' : Hp) (q : Addr), Same H H' → H q = none → H' q = some (.lst (iv (Fs ls m s))) → Q (.ref q) H'
theorem ok_first_counted {f C nb : Addr} {fd : FuncData} (F : Fun K "first_counted" "first_counted" s_first_counted f fd) (T : Txt K mg C nb) (F_sum_of_pages : FnAt P w K mg base "sum_of_pages" 2 ["leaves"] (spSum K)) :
    FnOk P w K mg base CX0 3 f fd ["leaves", "counts", "size", "pages"] (spFirstCounted K) := by
  refine F.ok SC_first_counted (fun vs H Q E h => ?_) (fun cdv A outer s H vs Q E hr h => ?_)
  · obtain ⟨a, t, m, n, ls, ds, rfl, _⟩ := h
    rfl
  · obtain ⟨a, t, m, n, ls, ds, rfl, hS, ht, hdl, hT, hlen, hpos, kont⟩ := h
    refine ⟨_, (pss_cons (ps_set (i := 4) SC_first_counted.nd rfl (Or.inl rfl) (pe_lst pa_nil))
      (pss_cons (ps_set (i := 5) SC_first_counted.nd rfl (Or.inl rfl) (pe_tup (pa_cons (pv 2) (pa_cons (pv 3) pa_nil))))
      (pss_cons (ps_for PassesOwn.never rfl (pi_enum rfl T.enumerate (pa_cons (pv 0) pa_nil)) (pg_tup rfl (pgs_cons (pg_name (i := 6) SC_first_counted.nd rfl (Or.inl rfl)) (pgs_cons (pg_name (i := 7) SC_first_counted.nd rfl (Or.inl rfl)) pgs_nil)))
        (pss_cons (ps_set (i := 8) SC_first_counted.nd rfl (Or.inl rfl) (pe_ix ix_list (pv 1) (pe_op op_sub (pe_op op_sub (pe_callB call_len_seq rfl T.len PySem.boot_len (pa_cons (pv 0) pa_nil)) (pv 6)) pe_int) (fun _ _ => rfl)))
      (pss_cons (ps_set (i := 9) SC_first_counted.nd rfl (Or.inl rfl) (pe_tup (pa_cons (pe_op op_sub (pe_ix ix_tup (pv 5) pe_int (fun _ _ => rfl)) pe_int) (pa_cons (pe_op op_sub (pe_ix ix_tup (pv 5) pe_int (fun _ _ => rfl)) (pe_fn F_sum_of_pages (hr.mono (by decide)) rfl (pa_cons (pe_lst (pa_cons (pv 7) pa_nil)) pa_nil))) pa_nil))))
      (pss_one (ps_if (pt_cmp (pc_din (hu_of hr) (pv 9) (pv 8)))
        (pss_cons (ps_expr (pe_bm PySem.F.plainAttrs_list PySem.F.slot_list_append PySem.F.type_list_append mt_append (pv 4) (pa_cons (pv 7) pa_nil)))
      (pss_one (ps_set (i := 5) SC_first_counted.nd rfl (Or.inl rfl) (pv 9))))
        pss_nil)))))
      (pss_one (ps_ret (pv 4)))))), ?_⟩
    -- chosen = []; missing = (size, pages)
    refine ⟨Nat.zero_le _, fun q hq => ?_⟩
    have S0 : Same H (upd H q (.lst [])) := Same.new hq
    refine ⟨_, rfl, _, rfl, (by show 2 ≤ sizeLine; decide), fun r hr' => ?_⟩
    have S1 : Same H (upd (upd H q (.lst [])) r (.tup [V.int (m : Int), V.int (n : Int)])) := S0.trans (Same.new hr')
    have hqr : q ≠ r := ne_of_none upd_same hr'
    -- for place, leaf in enumerate(leaves)
    refine ⟨_, rfl, a, iv ls, rfl, S1.seq hS, ?_⟩
    refine for_enum (xs := iv ls) (fun i σ H' => ∃ (c : List Nat) (m' n' : Nat) (r' : Addr) (v6 v7 v8 v9 : Option V), σ = [some (.ref a), some (.ref t), some (.int (m : Int)), some (.int (n : Int)), some (.ref q), some (.ref r'), v6, v7, v8, v9] ∧ Same H H' ∧ H' q = some (.lst (iv c)) ∧
        H' r' = some (.tup [V.int (m' : Int), V.int (n' : Int)]) ∧ Fs ls m n = c ++ Fs (ls.drop i) m' n' ∧ c.length ≤ i)
      ⟨[], m, n, r, none, none, none, none, rfl, S1, (by rw [upd_ne hqr]; exact upd_same), upd_same, rfl, Nat.le_refl _⟩ ?_ ?_ ?_
    · rintro i σ H' _ ⟨c, m', n', r', v6, v7, v8, v9, rfl, S, _⟩
      exact S.seq hS
    · rintro i x z σ H' hx hz ⟨c, m', n', r', v6, v7, v8, v9, rfl, S, hq', hr1, hF, hc⟩
      obtain ⟨k, hk, rfl⟩ := iv_at hx
      have hi : i < ls.length := (List.getElem?_eq_some_iff.mp hk).1
      have S2 : Same H' (upd H' z (.tup [V.int ((i : Nat) : Int), V.int (k : Int)])) := Same.new hz
      obtain ⟨d, hd⟩ : ∃ d, ds[ls.length - i - 1]? = some d := ⟨_, List.getElem?_eq_getElem (by omega)⟩
      obtain ⟨es, hes, tes⟩ := hT _ _ hd
      have e1 : ls.length - (ls.length - i - 1) = i + 1 := by omega
      rw [e1] at tes
      have hat : atI (ds.map V.ref) (((iv ls).length : Int) - (i : Int) - 1) = some (V.ref d) := by
        rw [iv_len, show ((ls.length : Int) - (i : Int) - 1) = ((ls.length - i - 1 : Nat) : Int) by omega]
        exact atI_nat (by rw [List.getElem?_map, hd]; rfl)
      refine ⟨z, _, rfl, SqT.of upd_same, rfl, _, _, rfl, _, _, rfl, rfl, ?_⟩
      -- behind = counts[len(leaves) - place - 1]
      refine ⟨_, rfl, _, rfl, a, _, rfl, .inl ((S.trans S2).seq hS), _, rfl, _, _, rfl, rfl, _, _, rfl, rfl, t, _, _, _, rfl, rfl, SqL.of ((S.trans S2) _ _ ht), hat, ?_⟩
      -- still_missing = (missing[0] - 1, missing[1] - sum_of_pages([leaf]))
      refine ⟨_, rfl, r', _, _, _, rfl, rfl, SqT.of (S2 _ _ hr1), atI_nat (j := 0) rfl, _, _, rfl, rfl, _, rfl, r', _, _, _, rfl, rfl, SqT.of (S2 _ _ hr1), atI_nat (j := 1) rfl, _, rfl, (by show 1 ≤ sizeLine; decide), fun q1 hq1 => ?_⟩
      refine ⟨q1, [k], rfl, SqL.of upd_same, (show 1 ≤ 1000 by decide), (fun x hx => (List.mem_singleton.mp hx) ▸ hpos k (List.mem_of_getElem? hk)), fun H3 S3 => ?_⟩
      have S23 : Same H' H3 := (S2.trans (Same.new hq1)).trans S3
      refine ⟨_, _, rfl, rfl, (by show 2 ≤ sizeLine; decide), fun y hy => ?_⟩
      have S4 : Same H3 (upd H3 y (.tup [V.int ((m' : Int) - 1), V.int ((n' : Int) - ((Ux06.sum [k] : Nat) : Int))])) := Same.new hy
      have SS : Same H' (upd H3 y (.tup [V.int ((m' : Int) - 1), V.int ((n' : Int) - ((Ux06.sum [k] : Nat) : Int))])) := S23.trans S4
      -- if still_missing in behind
      refine ⟨_, rfl, _, rfl, d, _, rfl, DGet.t (k := kk ((m' : Int) - 1) ((n' : Int) - ((Ux06.sum [k] : Nat) : Int))) (SS _ _ (S _ _ hes)) upd_same, _, rfl, ?_⟩
      rw [tab_is tes]
      have hFd := F_drop hk m' n'
      rw [hFd] at hF
      refine ite2 (fun h1 => ?_) (fun h1 => ?_)
      · have h1' := of_decide_eq_true h1
        rw [sum_one] at h1' 
        have em : ((m' : Int) - 1).toNat = m' - 1 := by omega
        have en : ((n' : Int) - ((worth k : Nat) : Int)).toNat = n' - worth k := by omega
        rw [em, en] at h1'
        rw [if_pos ⟨by omega, by omega, h1'.2.2⟩] at hF
        refine ⟨_, rfl, .inl ⟨rfl, _, SqL.of (SS _ _ hq')⟩, _, rfl, q, _, _, rfl, rfl, SS _ _ hq', (by rw [iv_len]; exact Nat.lt_of_le_of_lt (show c.length ≤ 30 by omega) (by decide)), ?_⟩
        refine ⟨_, rfl, ?_⟩
        have hqy : q ≠ y := ne_of_none (S23 _ _ hq') hy
        refine ⟨c ++ [k], m' - 1, n' - worth k, y, some (V.int ((i : Nat) : Int)), some (V.int (k : Int)), some (V.ref d), some (V.ref y), rfl, fun b o e => ?_, ?_, ?_, ?_, ?_⟩
        · rw [upd_ne (ne_of_none e hq)]
          exact SS _ _ (S _ _ e)
        · rw [upd_same, iv_snoc]
        · rw [upd_ne (Ne.symm hqy), upd_same]
          show some (HO.tup [V.int ((m' : Int) - 1), V.int ((n' : Int) - ((Ux06.sum [k] : Nat) : Int))]) = _
          rw [sum_one, show ((m' : Int) - 1) = ((m' - 1 : Nat) : Int) by omega, show ((n' : Int) - ((worth k : Nat) : Int)) = ((n' - worth k : Nat) : Int) by omega]
        · rw [hF, List.append_assoc]
          rfl
        · rw [List.length_append, List.length_singleton]
          omega
      · have hneg : ¬ (m' ≠ 0 ∧ worth k ≤ n' ∧ Wn (ls.drop (i + 1)) (m' - 1) (n' - worth k) ≠ 0) := fun z => h1 (decide_eq_true (by
          rw [sum_one, show ((m' : Int) - 1).toNat = m' - 1 by omega, show ((n' : Int) - ((worth k : Nat) : Int)).toNat = n' - worth k by omega]
          exact ⟨by omega, by omega, z.2.2⟩))
        rw [if_neg hneg] at hF
        exact ⟨c, m', n', r', some (V.int ((i : Nat) : Int)), some (V.int (k : Int)), some (V.ref d), some (V.ref y), rfl, S.trans SS, SS _ _ hq', SS _ _ hr1, hF, by omega⟩
    · rintro σ H' ⟨c, m', n', r', v6, v7, v8, v9, rfl, S, hq', hr1, hF, hc⟩
      rw [iv_len, List.drop_length] at hF
      refine ⟨_, rfl, kont H' q S hq ?_⟩
      rw [hF]
      show H' q = some (.lst (iv (c ++ [])))
      rw [List.append_nil]
      exact hq'
/-! ### lists of pairs -/
def PairsAt (H : Hp) (rs : List Addr) (ps : List (Int × Int)) : Prop := rs.length = ps.length ∧ ∀ (j : Nat) (r : Addr), rs[j]? = some r → ∃ p : Int × Int, ps[j]? = some p ∧ H r = some (.tup [V.int p.1, V.int p.2])
theorem PairsAt.same {H H' : Hp} {rs : List Addr} {ps : List (Int × Int)} (h : PairsAt H rs ps) (S : ∀ b xs, H b = some (.tup xs) → H' b = some (.tup xs)) : PairsAt H' rs ps := ⟨h.1, fun j r e => by
  obtain ⟨p, h1, h2⟩ := h.2 j r e
  exact ⟨p, h1, S _ _ h2⟩⟩
theorem PairsAt.nil (H : Hp) : PairsAt H [] [] := ⟨rfl, fun j r e => nomatch e⟩
theorem PairsAt.snoc {H : Hp} {rs : List Addr} {ps : List (Int × Int)} (h : PairsAt H rs ps) {r : Addr} {x y : Int} (hr : H r = some (.tup [V.int x, V.int y])) : PairsAt H (rs ++ [r]) (ps ++ [(x, y)]) := by
  refine ⟨by rw [List.length_append, List.length_append, h.1]; rfl, fun j r' e => ?_⟩
  by_cases hj : j < rs.length
  · rw [List.getElem?_append_left hj] at e
    obtain ⟨p, h1, h2⟩ := h.2 j r' e
    exact ⟨p, by rw [List.getElem?_append_left (by rw [← h.1]; exact hj)]; exact h1, h2⟩
  · have hl := (List.getElem?_eq_some_iff.mp e).1
    rw [List.length_append, List.length_singleton] at hl
    have ej : j = rs.length := by omega
    subst ej
    rw [List.getElem?_append_right (Nat.le_refl _), Nat.sub_self] at e
    have e' : r = r' := Option.some.inj e
    subst e'
    exact ⟨(x, y), by rw [h.1, List.getElem?_append_right (Nat.le_refl _), Nat.sub_self]; rfl, hr⟩
theorem PairsAt.dropLast {H : Hp} {rs : List Addr} {ps : List (Int × Int)} (h : PairsAt H rs ps) : PairsAt H rs.dropLast ps.dropLast := by
  refine ⟨by rw [List.length_dropLast, List.length_dropLast, h.1], fun j r e => ?_⟩
  have hl := (List.getElem?_eq_some_iff.mp e).1
  rw [List.length_dropLast] at hl
  rw [List.getElem?_dropLast, if_pos hl] at e
  obtain ⟨p, h1, h2⟩ := h.2 j r e
  refine ⟨p, ?_, h2⟩
  rw [List.getElem?_dropLast, if_pos (by rw [← h.1]; exact hl)]
  exact h1
/-! ### told_by_ends -/
abbrev s_told_by_ends : Stmt := top 33
theorem SC_told_by_ends : FnScope ["runs", "told", "run"] ["runs"] (defScope s_told_by_ends) := ⟨rfl, rfl, rfl, by decide +kernel, rfl, by decide +kernel, by decide +kernel⟩
def flatP (ps : List (Int × Int)) : List Int := ps.flatMap fun p => [p.1, p.2]
theorem flatP_len (ps : List (Int × Int)) : (flatP ps).length = 2 * ps.length := by
  unfold flatP
  induction ps with
  | nil => rfl
  | cons p r ih => rw [List.flatMap_cons, List.length_append, ih, List.length_cons]; show 2 + 2 * r.length = 2 * (r.length + 1); omega
def spTold : Sp := fun vs H Q _ => ∃ (a : Addr) (rs : List Addr) (ps : List (Int × Int)), vs = [.ref a] ∧ H a = some (.lst (rs.map V.ref)) ∧ PairsAt H rs ps ∧ ps.length ≤ 1000 ∧
  ∀ (H' : Hp) (q : Addr), Same H H' → H q = none → H' q = some (.lst (((ps.length : Int) :: flatP ps).map V.int)) → Q (.ref q) H'
theorem ok_told_by_ends {f C nb : Addr} {fd : FuncData} (F : Fun K "told_by_ends" "told_by_ends" s_told_by_ends f fd) (T : Txt K mg C nb) : FnOk P w K mg base CX0 1 f fd ["runs"] spTold := by
  refine F.ok SC_told_by_ends (fun vs H Q E h => ?_) (fun cdv A outer s H vs Q E hr h => ?_)
  · obtain ⟨a, rs, ps, rfl, _⟩ := h
    rfl
  · obtain ⟨a, rs, ps, rfl, ha, hP, hlen, kont⟩ := h
    refine ⟨_, (pss_cons (ps_set (i := 1) SC_told_by_ends.nd rfl (Or.inl rfl) (pe_lst (pa_cons (pe_callB call_len_seq rfl T.len PySem.boot_len (pa_cons (pv 0) pa_nil)) pa_nil)))
      (pss_cons (ps_for PassesOwn.never rfl (pi_list (pv 0)) (pg_name (i := 2) SC_told_by_ends.nd rfl (Or.inl rfl))
        (pss_one (ps_expr (pe_bm PySem.F.plainAttrs_list PySem.F.slot_list_extend PySem.F.type_list_extend mt_extend (pv 1) (pa_cons (pe_lst (pa_cons (pe_ix ix_tup (pv 2) pe_int (fun _ _ => rfl)) (pa_cons (pe_ix ix_tup (pv 2) pe_int (fun _ _ => rfl)) pa_nil))) pa_nil)))))
      (pss_one (ps_ret (pv 1))))), ?_⟩
    refine ⟨_, rfl, a, _, rfl, .inl (SqL.of ha), (by show 1 ≤ sizeLine; decide), fun q hq => ?_⟩
    have S0 : Same H (upd H q (.lst [V.int ((rs.map V.ref).length : Int)])) := Same.new hq
    refine ⟨_, rfl, a, rfl, ⟨_, SqL.of (S0 _ _ ha)⟩, ?_⟩
    refine for_list (xs := rs.map V.ref) (fun i σ H' => ∃ v2 : Option V, σ = [some (.ref a), some (.ref q), v2] ∧ Same H H' ∧ H' q = some (.lst (((ps.length : Int) :: flatP (ps.take i)).map V.int)))
      ⟨none, rfl, S0, ?_⟩ ?_ ?_ ?_
    · rw [upd_same, List.length_map, hP.1]
      rfl
    · rintro i σ H' _ ⟨v2, rfl, S, _⟩
      exact SqL.of (S _ _ ha)
    · rintro i x σ H' hx ⟨v2, rfl, S, hq'⟩
      rw [List.getElem?_map] at hx
      obtain ⟨r, hr1, rfl⟩ := Option.map_eq_some_iff.mp hx
      obtain ⟨p, hp, hrt⟩ := hP.2 i r hr1
      have hi : i < ps.length := (List.getElem?_eq_some_iff.mp hp).1
      refine ⟨_, rfl, .inl ⟨rfl, _, SqL.of hq'⟩, _, rfl, r, _, _, _, rfl, rfl, SqT.of (S _ _ hrt), atI_nat (j := 0) rfl, _, rfl, r, _, _, _, rfl, rfl, SqT.of (S _ _ hrt), atI_nat (j := 1) rfl, (by show 2 ≤ sizeLine; decide), fun z hz => ?_⟩
      have hqz : q ≠ z := ne_of_none hq' hz
      refine ⟨q, z, _, _, rfl, rfl, (by rw [upd_ne hqz]; exact hq'), upd_same, ?_, ?_⟩
      · rw [List.length_map, List.length_cons, flatP_len, List.length_take]
        exact Nat.le_trans (show _ ≤ 3000 by show 2 * min i ps.length + 1 + 2 ≤ 3000; omega) (by decide)
      · refine ⟨some (V.ref r), rfl, fun b o e => ?_, ?_⟩
        · rw [upd_ne (ne_of_none e hq), upd_ne (ne_of_none (S _ _ e) hz)]
          exact S _ _ e
        · rw [upd_same, take_snoc hp]
          unfold flatP
          rw [List.flatMap_append, List.map_cons, List.map_cons, List.map_append]
          rfl
    · rintro σ H' ⟨v2, rfl, S, hq'⟩
      rw [List.length_map, hP.1, List.take_length] at hq'
      exact ⟨_, rfl, kont H' q S hq hq'⟩
end
end Tl

set_option Elab.async false
set_option linter.all false
set_option maxRecDepth 100000
set_option maxHeartbeats 4000000
namespace Tl
open PySem PySem.Spec PyProof.Rows L2
open Ux06 (worth leaves)
def pI (p : Nat × Nat) : Int × Int := ((p.1 : Int), (p.2 : Int))
/-- the pieces from the first i leaves on -/
def pcs (n s i : Nat) : List (Nat × Nat) := ((leaves n).take i).flatMap fun a => (endsAt a s (leaves n)).map fun b => (a, b)
theorem leaves_at {n i : Nat} (h : i < n) : (leaves n)[i]? = some (i + 1) := by
  unfold leaves
  rw [List.getElem?_map, List.getElem?_range h]
  rfl
theorem pcs_succ {n i : Nat} (s : Nat) (h : i < n) : pcs n s (i + 1) = pcs n s i ++ (endsAt (i + 1) s (leaves n)).map fun b => (i + 1, b) := by
  unfold pcs
  rw [take_snoc (leaves_at h), List.flatMap_append]
  congr 1
  show (((endsAt (i + 1) s (leaves n)).map fun b => (i + 1, b)) ++ []) = _
  rw [List.append_nil]
theorem pcs_all (n s : Nat) : pcs n s n = Ux06.pieces n s := by
  unfold pcs
  rw [List.take_of_length_le (by rw [leaves_len]; exact Nat.le_refl _), pieces_eq]
theorem endsAt_len (a s : Nat) (l : List Nat) : (endsAt a s l).length ≤ l.length := List.length_filter_le _ _
theorem pcs_len (n s : Nat) : ∀ i, i ≤ n → (pcs n s i).length ≤ i * n
  | 0, _ => by
    show ([] : List (Nat × Nat)).length ≤ _
    exact Nat.zero_le _
  | i + 1, h => by
    have ih := pcs_len n s i (by omega)
    rw [pcs_succ s (by omega), List.length_append, List.length_map, Nat.succ_mul]
    have := endsAt_len (i + 1) s (leaves n)
    rw [leaves_len] at this
    omega
section
variable {P : Program} {w : World} {K : PySem.W.Frag} {mg : Str → Option Value} {base : Heap}
/-! ### pieces_with_sum -/
abbrev s_pieces_with_sum : Stmt := top 31
theorem SC_pieces_with_sum : FnScope ["leaves", "pages", "found", "low", "reached", "high"] ["leaves", "pages"] (defScope s_pieces_with_sum) := ⟨rfl, rfl, rfl, by decide +kernel, rfl, by decide +kernel, by decide +kernel⟩
def spPieces : Sp := fun vs H Q _ => ∃ n s : Nat, vs = [.int (n : Int), .int (s : Int)] ∧ n ≤ 30 ∧ ∀ (H' : Hp) (q : Addr) (rs : List Addr), Same H H' → H q = none → H' q = some (.lst (rs.map V.ref)) → PairsAt H' rs ((Ux06.pieces n s).map pI) → Q (.ref q) H'
theorem ok_pieces_with_sum {f C nb : Addr} {fd : FuncData} (F : Fun K "pieces_with_sum" "pieces_with_sum" s_pieces_with_sum f fd) (T : Txt K mg C nb) (F_sum_of_pages : FnAt P w K mg base "sum_of_pages" 2 ["leaves"] (spSum K)) :
    FnOk P w K mg base CX0 3 f fd ["leaves", "pages"] spPieces := by
  refine F.ok SC_pieces_with_sum (fun vs H Q E h => ?_) (fun cdv A outer s H vs Q E hr h => ?_)
  · obtain ⟨n, s, rfl, _⟩ := h
    rfl
  · obtain ⟨n, t, rfl, hn, kont⟩ := h
    refine ⟨_, (pss_cons (ps_set (i := 2) SC_pieces_with_sum.nd rfl (Or.inl rfl) (pe_lst pa_nil))
      (pss_cons (ps_for PassesOwn.never rfl (pi_range2 rfl T.range (pa_cons pe_int (pa_cons (pe_op op_add (pv 0) pe_int) pa_nil))) (pg_name (i := 3) SC_pieces_with_sum.nd rfl (Or.inl rfl))
        (pss_cons (ps_set (i := 4) SC_pieces_with_sum.nd rfl (Or.inl rfl) pe_int)
      (pss_one (ps_for PassesOwn.never rfl (pi_range2 rfl T.range (pa_cons (pv 3) (pa_cons (pe_op op_add (pv 0) pe_int) pa_nil))) (pg_name (i := 5) SC_pieces_with_sum.nd rfl (Or.inl rfl))
        (pss_cons (ps_set (i := 4) SC_pieces_with_sum.nd rfl (Or.inl rfl) (pe_op op_add (pv 4) (pe_fn F_sum_of_pages (hr.mono (by decide)) rfl (pa_cons (pe_lst (pa_cons (pv 5) pa_nil)) pa_nil))))
      (pss_one (ps_if (pt_cmpR op_eq (pv 4) (pv 1) (nomark _))
        (pss_one (ps_expr (pe_bm PySem.F.plainAttrs_list PySem.F.slot_list_append PySem.F.type_list_append mt_append (pv 2) (pa_cons (pe_tup (pa_cons (pv 3) (pa_cons (pv 5) pa_nil))) pa_nil))))
        pss_nil)))))))
      (pss_one (ps_ret (pv 2))))), ?_⟩
    refine ⟨Nat.zero_le _, fun q hq => ?_⟩
    refine ⟨_, rfl, _, _, rfl, rfl, 1, (n : Int) + 1, rfl, ⟨by decide, by decide, by omega, by omega⟩, ?_⟩
    refine for_range (lo := 1) (n := ((n : Int) + 1 - 1).toNat) (fun i σ H' => ∃ (rs : List Addr) (v3 v4 v5 : Option V), σ = [some (.int (n : Int)), some (.int (t : Int)), some (.ref q), v3, v4, v5] ∧ Same H H' ∧ H' q = some (.lst (rs.map V.ref)) ∧ PairsAt H' rs ((pcs n t i).map pI))
      ⟨[], none, none, none, rfl, Same.new hq, upd_same, PairsAt.nil _⟩ ?_ ?_
    · rintro i σ H' hi ⟨rs, v3, v4, v5, rfl, S, hq', hP⟩
      have hin : i < n := by omega
      have e0 : Ux06.piece (i + 1) (i + 0) = [] := piece_none _ _ (by omega)
      refine ⟨_, rfl, _, rfl, _, _, rfl, rfl, 1 + (i : Int), (n : Int) + 1, rfl, ⟨by omega, by omega, by omega, by omega⟩, ?_⟩
      refine for_range (lo := 1 + (i : Int)) (n := ((n : Int) + 1 - (1 + (i : Int))).toNat) (fun j σ H' => ∃ (rs : List Addr) (v5 : Option V), σ = [some (.int (n : Int)), some (.int (t : Int)), some (.ref q), some (.int (1 + (i : Int))), some (.int ((Ux06.sum (Ux06.piece (i + 1) (i + j)) : Nat) : Int)), v5] ∧ Same H H' ∧ H' q = some (.lst (rs.map V.ref)) ∧
          PairsAt H' rs ((pcs n t i ++ (endsAt (i + 1) t (leaves (i + j))).map fun b => (i + 1, b)).map pI))
        ⟨rs, v5, (by rw [e0]; rfl), S, hq', (by
          rw [show endsAt (i + 1) t (leaves (i + 0)) = [] from endsAt_low _ _ _ (fun b hb => by have := (mem_leaves (i + 0) b).mp hb; omega), List.map_nil, List.append_nil]
          exact hP)⟩ ?_ ?_
      · rintro j σ H' hj ⟨rs, v5, rfl, S, hq', hP⟩
        have hij : i + j < n := by omega
        have e1 : ([V.int (1 + (i : Int) + (j : Int))] : List V) = iv [i + j + 1] := by
          show _ = [V.int ((i + j + 1 : Nat) : Int)]
          rw [show ((i + j + 1 : Nat) : Int) = 1 + (i : Int) + (j : Int) by omega]
        refine ⟨_, rfl, _, rfl, (by show 1 ≤ sizeLine; decide), fun q1 hq1 => ?_⟩
        refine ⟨q1, [i + j + 1], rfl, (by rw [← e1]; exact SqL.of upd_same), (by show 1 ≤ 1000; decide), (fun x hx => by rw [List.mem_singleton.mp hx]; omega), fun H3 S3 => ?_⟩
        have S23 : Same H' H3 := (Same.new hq1).trans S3
        have hlen : rs.length ≤ 930 := by
          rw [hP.1, List.length_map, List.length_append, List.length_map]
          have h1 := pcs_len n t i (by omega)
          have h2 := endsAt_len (i + 1) t (leaves (i + j))
          rw [leaves_len] at h2
          have h3 : i * n ≤ 30 * 30 := Nat.mul_le_mul (by omega) hn
          omega
        have e2 : ((Ux06.sum (Ux06.piece (i + 1) (i + j)) : Nat) : Int) + ((Ux06.sum [i + j + 1] : Nat) : Int) = ((Ux06.sum (Ux06.piece (i + 1) (i + (j + 1))) : Nat) : Int) := by
          rw [show i + (j + 1) = i + j + 1 by omega, piece_succ (i + 1) (i + j) (by omega), sum_append]
          omega
        have e3 : leaves (i + (j + 1)) = leaves (i + j) ++ [i + j + 1] := by
          rw [show i + (j + 1) = i + j + 1 by omega, leaves_succ]
        refine ⟨_, _, rfl, rfl, _, rfl, _, rfl, rfl, _, rfl, ?_⟩
        show if decide (V.int (((Ux06.sum (Ux06.piece (i + 1) (i + j)) : Nat) : Int) + ((Ux06.sum [i + j + 1] : Nat) : Int)) = V.int (t : Int)) = true then _ else _
        refine ite2 (fun h1 => ?_) (fun h1 => ?_)
        · have h1' := of_decide_eq_true h1
          injection h1' with h1'
          rw [e2] at h1'
          refine ⟨_, rfl, .inl ⟨rfl, _, SqL.of (S23 _ _ hq')⟩, _, rfl, _, rfl, (by show 2 ≤ sizeLine; decide), fun z hz => ?_⟩
          have hqz : q ≠ z := ne_of_none (S23 _ _ hq') hz
          refine ⟨q, _, _, rfl, rfl, (by rw [upd_ne hqz]; exact S23 _ _ hq'), (by rw [List.length_map]; exact Nat.lt_of_le_of_lt hlen (by decide)), ?_⟩
          refine ⟨rs ++ [z], some (V.int (1 + (i : Int) + (j : Int))), ?_, fun b o e => ?_, ?_, ?_⟩
          · show [_, _, _, _, some (V.int (((Ux06.sum (Ux06.piece (i + 1) (i + j)) : Nat) : Int) + ((Ux06.sum [i + j + 1] : Nat) : Int))), _] = _
            rw [e2]
          · rw [upd_ne (ne_of_none e hq), upd_ne (ne_of_none (S23 _ _ (S _ _ e)) hz)]
            exact S23 _ _ (S _ _ e)
          · rw [upd_same, List.map_append]
            rfl
          · have e5 : (pcs n t i ++ (endsAt (i + 1) t (leaves (i + (j + 1)))).map fun b => (i + 1, b)).map pI = (pcs n t i ++ (endsAt (i + 1) t (leaves (i + j))).map fun b => (i + 1, b)).map pI ++ [(((i + 1 : Nat) : Int), ((i + j + 1 : Nat) : Int))] := by
              rw [e3, endsAt_snoc, if_pos ⟨by omega, by rw [show i + j + 1 = i + (j + 1) by omega]; omega⟩]
              simp only [List.map_append, List.append_assoc]
              rfl
            rw [e5]
            refine PairsAt.snoc (x := ((i + 1 : Nat) : Int)) (y := ((i + j + 1 : Nat) : Int)) (hP.same fun b xs e => ?_) ?_
            · rw [upd_ne (ne_of (S23 _ _ e) (S23 _ _ hq') (fun z => nomatch z)), upd_ne (ne_of_none (S23 _ _ e) hz)]
              exact S23 _ _ e
            · rw [upd_ne (Ne.symm hqz), upd_same, show ((i + 1 : Nat) : Int) = 1 + (i : Int) by omega, show ((i + j + 1 : Nat) : Int) = 1 + (i : Int) + (j : Int) by omega]
        · have h1' : ¬ Ux06.sum (Ux06.piece (i + 1) (i + j + 1)) = t := fun z => h1 (decide_eq_true (by rw [e2, show i + (j + 1) = i + j + 1 by omega, z]))
          refine ⟨rs, some (V.int (1 + (i : Int) + (j : Int))), ?_, S.trans S23, S23 _ _ hq', ?_⟩
          · show [_, _, _, _, some (V.int (((Ux06.sum (Ux06.piece (i + 1) (i + j)) : Nat) : Int) + ((Ux06.sum [i + j + 1] : Nat) : Int))), _] = _
            rw [e2]
          · rw [e3, endsAt_snoc, if_neg (fun z => h1' z.2), List.append_nil]
            exact hP.same fun b xs e => S23 _ _ e
      · rintro σ H' ⟨rs, v5, rfl, S, hq', hP⟩
        have e4 : i + ((n : Int) + 1 - (1 + (i : Int))).toNat = n := by omega
        rw [e4, ← pcs_succ t hin] at hP
        exact ⟨rs, _, _, _, rfl, S, hq', hP⟩
    · rintro σ H' ⟨rs, v3, v4, v5, rfl, S, hq', hP⟩
      rw [show ((n : Int) + 1 - 1).toNat = n by omega, pcs_all] at hP
      exact ⟨_, rfl, kont H' q rs S hq hq' hP⟩
/-! ### runs_of_pages -/
abbrev s_runs_of_pages : Stmt := top 32
theorem SC_runs_of_pages : FnScope ["leaves", "runs", "leaf", "pages", "begin"] ["leaves"] (defScope s_runs_of_pages) := ⟨rfl, rfl, rfl, by decide +kernel, rfl, by decide +kernel, by decide +kernel⟩
def pg (g : Nat × Nat) : Int × Int := (2 * (g.1 : Int) - 1, 2 * (g.2 : Int))
def spRuns (K : PySem.W.Frag) : Sp := fun vs H Q _ => ∃ (a : Addr) (ts : List Nat), vs = [.ref a] ∧ SqL K H a (iv ts) ∧ ts.length ≤ 1000 ∧
  ∀ (H' : Hp) (q : Addr) (rs : List Addr), Same H H' → H q = none → H' q = some (.lst (rs.map V.ref)) → PairsAt H' rs ((Ux06.gaps ts).map pg) → Q (.ref q) H'
theorem gapEnd_some {G : List (Nat × Nat)} {k : Nat} {g : Nat × Nat} (h : G.getLast? = some g) : gapEnd G k = if k = g.2 + 1 then G.dropLast ++ [(g.1, k)] else G ++ [(k, k)] := by
  unfold gapEnd
  rw [h]
theorem gapEnd_len (G : List (Nat × Nat)) (k : Nat) : (gapEnd G k).length ≤ G.length + 1 := by
  unfold gapEnd
  cases G.getLast? with
  | none => show 1 ≤ _; omega
  | some g =>
    show (if k = g.2 + 1 then G.dropLast ++ [(g.1, k)] else G ++ [(k, k)]).length ≤ _
    split
    · rw [List.length_append, List.length_dropLast]; show _ + 1 ≤ _; omega
    · rw [List.length_append]; exact Nat.le_refl _
theorem ok_runs_of_pages {f C nb : Addr} {fd : FuncData} (F : Fun K "runs_of_pages" "runs_of_pages" s_runs_of_pages f fd) (T : Txt K mg C nb) (F_pages_of : FnAt P w K mg base "pages_of" 1 ["leaf"] spPages) :
    FnOk P w K mg base CX0 2 f fd ["leaves"] (spRuns K) := by
  refine F.ok SC_runs_of_pages (fun vs H Q E h => ?_) (fun cdv A outer s H vs Q E hr h => ?_)
  · obtain ⟨a, ts, rfl, _⟩ := h
    rfl
  · obtain ⟨a, ts, rfl, hS, hlen, kont⟩ := h
    refine ⟨_, (pss_cons (ps_set (i := 1) SC_runs_of_pages.nd rfl (Or.inl rfl) (pe_lst pa_nil))
      (pss_cons (ps_for PassesOwn.never rfl (pi_list (pv 0)) (pg_name (i := 2) SC_runs_of_pages.nd rfl (Or.inl rfl))
        (pss_cons (ps_set (i := 3) SC_runs_of_pages.nd rfl (Or.inl rfl) (pe_fn F_pages_of (hr.mono (by decide)) rfl (pa_cons (pv 2) pa_nil)))
      (pss_cons (ps_set (i := 4) SC_runs_of_pages.nd rfl (Or.inl rfl) (pe_ix ix_list (pv 3) pe_int (fun _ _ => rfl)))
      (pss_cons (ps_if (PW.pt (pw_and (pt_cmpR op_gt (pe_callB call_len_seq rfl T.len PySem.boot_len (pa_cons (pv 1) pa_nil)) pe_int (nomark _)) (pw_and1 (pt_cmpR op_eq (pe_op op_add (pe_ix ix_tup (pe_ix ix_list (pv 1) (pe_un un_neg pe_int) (fun _ _ => rfl)) pe_int (fun _ _ => rfl)) pe_int) (pv 4) (nomark _)))))
        (pss_one (ps_set (i := 4) SC_runs_of_pages.nd rfl (Or.inl rfl) (pe_ix ix_tup (pe_bm0 PySem.F.plainAttrs_list PySem.F.slot_list_pop PySem.F.type_list_pop mt_pop (pv 1)) pe_int (fun _ _ => rfl))))
        pss_nil)
      (pss_one (ps_expr (pe_bm PySem.F.plainAttrs_list PySem.F.slot_list_append PySem.F.type_list_append mt_append (pv 1) (pa_cons (pe_tup (pa_cons (pv 4) (pa_cons (pe_ix ix_list (pv 3) pe_int (fun _ _ => rfl)) pa_nil))) pa_nil))))))))
      (pss_one (ps_ret (pv 1))))), ?_⟩
    refine ⟨Nat.zero_le _, fun q hq => ?_⟩
    have S0 : Same H (upd H q (.lst [])) := Same.new hq
    refine ⟨_, rfl, a, rfl, ⟨_, S0.seq hS⟩, ?_⟩
    refine for_list (xs := iv ts) (fun i σ H' => ∃ (rs : List Addr) (v2 v3 v4 : Option V), σ = [some (.ref a), some (.ref q), v2, v3, v4] ∧ Same H H' ∧ H' q = some (.lst (rs.map V.ref)) ∧ PairsAt H' rs ((Ux06.gaps (ts.take i)).map pg) ∧ rs.length ≤ i)
      ⟨[], none, none, none, rfl, S0, upd_same, PairsAt.nil _, Nat.le_refl _⟩ ?_ ?_ ?_
    · rintro i σ H' _ ⟨rs, v2, v3, v4, rfl, S, _⟩
      exact S.seq hS
    · rintro i x σ H' hx ⟨rs, v2, v3, v4, rfl, S, hq', hP, hrl⟩
      obtain ⟨k, hk, rfl⟩ := iv_at hx
      have hi : i < ts.length := (List.getElem?_eq_some_iff.mp hk).1
      have hG : Ux06.gaps (ts.take (i + 1)) = gapEnd (Ux06.gaps (ts.take i)) k := by rw [take_snoc hk, gaps_snoc]
      rw [hG]
      generalize hGe : Ux06.gaps (ts.take i) = G at hP
      have hrG : rs.length = G.length := by rw [hP.1, List.length_map]
      -- pages = pages_of(leaf); begin = pages[0]
      refine ⟨_, rfl, (k : Int), rfl, fun p hp => ?_⟩
      have S2 : Same H' (upd H' p (.lst [V.int (2 * (k : Int) - 1), V.int (2 * (k : Int))])) := Same.new hp
      have hqp : q ≠ p := ne_of_none hq' hp
      refine ⟨_, rfl, p, _, _, _, rfl, rfl, SqL.of upd_same, atI_nat (j := 0) rfl, ?_⟩
      -- the last step, for either begin
      have SzB : rs.length < sizeLine := Nat.lt_of_le_of_lt (show rs.length ≤ 1000 by omega) (by decide)
      refine ⟨_, rfl, q, _, rfl, .inl (SqL.of (S2 _ _ hq')), _, _, rfl, rfl, _, rfl, ?_⟩
      refine ite2 (fun h1 => ?_) (fun h1 => ?_)
      · have h1' : 0 < rs.length := by
          have := of_decide_eq_true h1
          rw [List.length_map] at this
          omega
        obtain ⟨r, hr1⟩ : ∃ r, rs[rs.length - 1]? = some r := ⟨_, List.getElem?_eq_getElem (by omega)⟩
        obtain ⟨g, hg⟩ : ∃ g, G[G.length - 1]? = some g := ⟨_, List.getElem?_eq_getElem (by omega)⟩
        obtain ⟨pp, hpp, hrt⟩ := hP.2 _ _ hr1
        have epp : pp = pg g := by
          rw [hrG, List.getElem?_map, hg] at hpp
          exact (Option.some.inj hpp).symm
        subst epp
        have hlast : G.getLast? = some g := by rw [List.getLast?_eq_getElem?]; exact hg
        have hat : atI (rs.map V.ref) (-1) = some (V.ref r) := atI_end (by rw [List.length_map, List.getElem?_map, hr1]; rfl) (by rw [List.length_map]; exact h1')
        refine ⟨_, rfl, _, rfl, q, _, _, _, rfl, rfl, SqL.of (S2 _ _ hq'), hat, r, _, _, _, rfl, rfl, SqT.of (S2 _ _ hrt), atI_nat (j := 1) rfl, _, _, rfl, rfl, _, rfl, rfl, _, rfl, ?_⟩
        show if decide (V.int (2 * (g.2 : Int) + 1) = V.int (2 * (k : Int) - 1)) = true then _ else _
        refine ite2 (fun h2 => ?_) (fun h2 => ?_)
        · have h2' : k = g.2 + 1 := by
            have := of_decide_eq_true h2
            injection this with this
            omega
          rw [gapEnd_some hlast, if_pos h2']
          -- begin = runs.pop()[0]
          refine ⟨_, rfl, .inl ⟨rfl, _, SqL.of (S2 _ _ hq')⟩, q, _, _, rfl, rfl, S2 _ _ hq', (by rw [List.length_map, List.getElem?_map, hr1]; rfl), ?_⟩
          have hrq : r ≠ q := ne_of hrt hq' (fun z => nomatch z)
          refine ⟨r, _, _, _, rfl, rfl, SqT.of (by rw [upd_ne hrq]; exact S2 _ _ hrt), atI_nat (j := 0) rfl, ?_⟩
          -- runs.append((begin, pages[1]))
          refine ⟨_, rfl, .inl ⟨rfl, _, SqL.of upd_same⟩, _, rfl, _, rfl, p, _, _, _, rfl, rfl, SqL.of (by rw [upd_ne (Ne.symm hqp)]; exact upd_same), atI_nat (j := 1) rfl, (by show 2 ≤ sizeLine; decide), fun z hz => ?_⟩
          have hqz : q ≠ z := ne_of_none upd_same hz
          refine ⟨q, _, _, rfl, rfl, (by rw [upd_ne hqz]; exact upd_same), (by rw [List.length_dropLast, List.length_map]; omega), ?_⟩
          have hz2 : upd H' p (.lst [V.int (2 * (k : Int) - 1), V.int (2 * (k : Int))]) z = none := by rw [upd_ne (Ne.symm hqz)] at hz; exact hz
          refine ⟨rs.dropLast ++ [z], some (V.int (k : Int)), some (V.ref p), some (V.int (2 * (g.1 : Int) - 1)), rfl, fun b o e => ?_, ?_, ?_, ?_⟩
          · rw [upd_ne (ne_of_none e hq), upd_ne (ne_of_none (S2 _ _ (S _ _ e)) hz2), upd_ne (ne_of_none e hq)]
            exact S2 _ _ (S _ _ e)
          · rw [upd_same, List.map_append, List.map_dropLast]
            rfl
          · rw [List.map_append, List.map_dropLast]
            refine PairsAt.snoc (x := 2 * (g.1 : Int) - 1) (y := 2 * (k : Int)) (hP.dropLast.same fun b xs e => ?_) ?_
            · have hbq : b ≠ q := ne_of e hq' (fun z => nomatch z)
              rw [upd_ne hbq, upd_ne (ne_of_none (S2 _ _ e) hz2), upd_ne hbq]
              exact S2 _ _ e
            · rw [upd_ne (Ne.symm hqz), upd_same]
              rfl
          · rw [List.length_append, List.length_dropLast, List.length_singleton]
            omega
        · have h2' : ¬ k = g.2 + 1 := fun z => h2 (decide_eq_true (by rw [z]; congr 1; omega))
          rw [gapEnd_some hlast, if_neg h2']
          refine ⟨_, rfl, .inl ⟨rfl, _, SqL.of (S2 _ _ hq')⟩, _, rfl, _, rfl, p, _, _, _, rfl, rfl, SqL.of upd_same, atI_nat (j := 1) rfl, (by show 2 ≤ sizeLine; decide), fun z hz => ?_⟩
          have hqz : q ≠ z := ne_of_none (S2 _ _ hq') hz
          refine ⟨q, _, _, rfl, rfl, (by rw [upd_ne hqz]; exact S2 _ _ hq'), (by rw [List.length_map]; exact SzB), ?_⟩
          refine ⟨rs ++ [z], some (V.int (k : Int)), some (V.ref p), some (V.int (2 * (k : Int) - 1)), rfl, fun b o e => ?_, ?_, ?_, ?_⟩
          · rw [upd_ne (ne_of_none e hq), upd_ne (ne_of_none (S2 _ _ (S _ _ e)) hz)]
            exact S2 _ _ (S _ _ e)
          · rw [upd_same, List.map_append]
            rfl
          · rw [List.map_append]
            refine PairsAt.snoc (x := 2 * (k : Int) - 1) (y := 2 * (k : Int)) (hP.same fun b xs e => ?_) ?_
            · have hbq : b ≠ q := ne_of e hq' (fun z => nomatch z)
              rw [upd_ne hbq, upd_ne (ne_of_none (S2 _ _ e) hz)]
              exact S2 _ _ e
            · rw [upd_ne (Ne.symm hqz), upd_same]
          · rw [List.length_append, List.length_singleton]
            omega
      · have h0 : rs.length = 0 := by
          by_cases z : 0 < rs.length
          · exact absurd (decide_eq_true (by rw [List.length_map]; omega)) h1
          · omega
        have hG0 : G = [] := List.length_eq_zero_iff.mp (by omega)
        subst hG0
        refine iteF ?_
        refine ⟨_, rfl, .inl ⟨rfl, _, SqL.of (S2 _ _ hq')⟩, _, rfl, _, rfl, p, _, _, _, rfl, rfl, SqL.of upd_same, atI_nat (j := 1) rfl, (by show 2 ≤ sizeLine; decide), fun z hz => ?_⟩
        have hqz : q ≠ z := ne_of_none (S2 _ _ hq') hz
        refine ⟨q, _, _, rfl, rfl, (by rw [upd_ne hqz]; exact S2 _ _ hq'), (by rw [List.length_map]; exact SzB), ?_⟩
        refine ⟨rs ++ [z], some (V.int (k : Int)), some (V.ref p), some (V.int (2 * (k : Int) - 1)), rfl, fun b o e => ?_, ?_, ?_, ?_⟩
        · rw [upd_ne (ne_of_none e hq), upd_ne (ne_of_none (S2 _ _ (S _ _ e)) hz)]
          exact S2 _ _ (S _ _ e)
        · rw [upd_same, List.map_append]
          rfl
        · refine PairsAt.snoc (ps := []) (x := 2 * (k : Int) - 1) (y := 2 * (k : Int)) (hP.same fun b xs e => ?_) ?_
          · have hbq : b ≠ q := ne_of e hq' (fun z => nomatch z)
            rw [upd_ne hbq, upd_ne (ne_of_none (S2 _ _ e) hz)]
            exact S2 _ _ e
          · rw [upd_ne (Ne.symm hqz), upd_same]
        · rw [List.length_append, List.length_singleton]
          omega
    · rintro σ H' ⟨rs, v2, v3, v4, rfl, S, hq', hP, _⟩
      rw [iv_len, List.take_length] at hP
      exact ⟨_, rfl, kont H' q rs S hq hq' hP⟩
end
end Tl

set_option Elab.async false
set_option linter.all false
set_option maxRecDepth 100000
set_option maxHeartbeats 4000000
namespace Tl
open PySem PySem.Spec PyProof.Rows L2
open Ux06 (worth leaves)
theorem Post.at {C : Addr} {H H' : Hp} {p l q : Addr} {b : Ux06.Book} {ans : List Int} {Q : VK} (h : Post C H p l b ans Q) (B : BookAt C H p l b) (S : Same H H') (hq0 : H q = none) (hq : H' q = some (.lst (ans.map V.int))) : Q (.ref q) H' := by
  obtain ⟨dx, ts, h1, h2, h3⟩ := id B.ex
  exact h H' q l hq0 hq (B.same S) (fun e => by subst e; rw [h2] at hq0; cases hq0) (.inl rfl) fun a o e _ _ => S a o e
section
variable {P : Program} {w : World} {K : PySem.W.Frag} {mg : Str → Option Value} {base : Heap}
/-! ### Book.whole -/
abbrev s_whole : Stmt := inClass (top 21) 3
theorem SC_whole : FnScope ["self"] ["self"] (defScope s_whole) := ⟨rfl, rfl, rfl, by decide +kernel, rfl, by decide +kernel, by decide +kernel⟩
def spList (C : Addr) (g : Ux06.Book → List Nat) : Sp := fun vs H Q _ => ∃ (p l : Addr) (b : Ux06.Book), vs = [.ref p] ∧ BookAt C H p l b ∧ ∀ (H' : Hp) (q : Addr), Same H H' → H q = none → H' q = some (.lst (iv (g b))) → Q (.ref q) H'
theorem ok_whole {f C nb : Addr} {fd : FuncData} (F : Fun K "whole" "Book.whole" s_whole f fd) (T : Txt K mg C nb) : FnOk P w K mg base CX0 1 f fd ["self"] (spList C fun b => leaves b.n) := by
  refine F.ok SC_whole (fun vs H Q E h => ?_) (fun cdv A outer s H vs Q E hr h => ?_)
  · obtain ⟨p, l, b, rfl, _⟩ := h
    rfl
  · obtain ⟨p, l, b, rfl, B, h⟩ := h
    refine ⟨_, (pss_one (ps_ret (pe_callTy (call_list_rng rfl) rfl T.list boot_list (pa_cons (pe_range2 rfl T.range (pa_cons pe_int (pa_cons (pe_op op_add (pe_fld (pv 0) rfl) pe_int) pa_nil))) pa_nil)))), ?_⟩
    obtain ⟨dx, ts, hp, hl, hperm⟩ := id B.ex
    have hn := B.ok.hi
    refine ⟨_, rfl, p, C, dx, _, _, rfl, hp, T.cl, T.nL, bf_leaves _ _, _, _, rfl, rfl, 1, _, rfl, fun q1 hq1 => ?_⟩
    refine ⟨q1, 1, _, rfl, upd_same, ⟨by decide, by decide, by omega, by omega⟩, by omega, fun q2 hq2 => ?_⟩
    rw [upFrom_leaves]
    have S1 : Same H (upd H q1 (.rng 1 ((b.n : Int) + 1))) := Same.new hq1
    exact h _ q2 (S1.trans (Same.new hq2)) (S1.free hq2) upd_same
/-! ### Book.left -/
abbrev s_left : Stmt := inClass (top 21) 4
theorem SC_left : FnScope ["self", "leaf"] ["self"] (defScope s_left) := ⟨rfl, rfl, rfl, by decide +kernel, rfl, by decide +kernel, by decide +kernel⟩
theorem left_take {b : Ux06.Book} {i k : Nat} (h : (leaves b.n)[i]? = some k) : ((leaves b.n).take (i + 1)).filter (fun k => !b.torn.contains k) = ((leaves b.n).take i).filter (fun k => !b.torn.contains k) ++ (if b.torn.contains k = true then [] else [k]) := by
  rw [take_snoc h, List.filter_append]
  congr 1
  rw [List.filter_cons, List.filter_nil]
  cases b.torn.contains k <;> rfl
theorem ok_left {f C nb : Addr} {fd : FuncData} (F : Fun K "left" "Book.left" s_left f fd) (T : Txt K mg C nb) (M_whole : MtAt P w K mg base C "whole" 1 ["self"] (spList C fun b => leaves b.n)) : FnOk P w K mg base CX0 2 f fd ["self"] (spList C Ux06.left) := by
  refine F.ok SC_left (fun vs H Q E h => ?_) (fun cdv A outer s H vs Q E hr h => ?_)
  · obtain ⟨p, l, b, rfl, _⟩ := h
    rfl
  · obtain ⟨p, l, b, rfl, B, h⟩ := h
    refine ⟨_, (pss_one (ps_ret (pe_lc (own := [("leaf", 1)]) (tt := tTest (tOp (rIn K true) (tVar 1) (tFld K (tVar 0) "torn"))) (te := tVar 1) rfl SC_left.nd (pi_list (pe_mt0 M_whole (hr.mono (by decide)) (pv 0))) (blkOk_by (by show blkC ["self", "leaf"] (defScope s_left) _ [("leaf", 1)] = true; decide +kernel)) (fun _ _ _ _ _ => pg_name (i := 1) SC_left.nd rfl (Or.inl rfl)) (fun _ _ _ _ _ => pts_one (pt_cmpR op_notIn_seq (pv 1) (pe_fld (pv 0) rfl) (by with_unfolding_all rfl))) (fun _ _ _ _ _ => (pv 1))))), ?_⟩
    obtain ⟨dx, ts, hp, hl, hperm⟩ := id B.ex
    refine ⟨_, rfl, p, dx, _, rfl, hp, bf_no _ _ (by decide +kernel) (by decide +kernel), p, l, b, rfl, B, fun H1 q1 S1 hq1 hq1' => ?_⟩
    refine ⟨q1, rfl, ⟨_, SqL.of hq1'⟩, fun D hD => lc_list (K := K) (a := q1) (xs := iv (leaves b.n)) (fun i H' => Same H1 H' ∧ H' D = some (.lst (iv (((leaves b.n).take i).filter fun k => !b.torn.contains k)))) ⟨Same.new hD, upd_same⟩ (fun i H' _ ⟨S, _⟩ => SqL.of (S _ _ hq1')) ?_ ?_⟩
    · rintro i x H' hx ⟨S, hD'⟩
      obtain ⟨k, hk, rfl⟩ := iv_at hx
      refine ⟨rfl, ?_⟩
      show tTest (tOp (rIn K true) (tVar 1) (tFld K (tVar 0) "torn")) _ _ _
      refine ⟨_, rfl, _, rfl, p, C, dx, _, _, rfl, S _ _ (S1 _ _ hp), T.cl, T.nT, bf_torn _ _, l, iv ts, rfl, .inl (SqL.of (S _ _ (S1 _ _ hl))), rfl, flat_iv ts, _, rfl, ?_⟩
      have ec : inV (V.int (k : Int)) (iv ts) = b.torn.contains k := by rw [inV_iv]; exact hperm.contains_eq
      have ef := left_take hk
      show if (!inV (V.int (k : Int)) (iv ts)) = true then _ else _
      rw [ec]
      cases hc : b.torn.contains k with
      | true =>
        rw [hc, if_pos rfl, List.append_nil] at ef
        exact iteF ⟨S, by rw [ef]; exact hD'⟩
      | false =>
        rw [hc, if_neg (by decide)] at ef
        refine iteT ?_
        show tVar 1 _ _ _
        refine ⟨_, rfl, _, hD', ?_, ?_, ?_⟩
        · rw [iv_len]
          refine Nat.lt_of_le_of_lt (Nat.le_trans (List.length_filter_le _ _) (Nat.le_trans (List.length_take_le' _ _) (by rw [leaves_len]; exact B.ok.hi))) (by decide)
        · intro b' o e
          rw [upd_ne (ne_of_none e hD)]
          exact S _ _ e
        · rw [upd_same, ef, iv_snoc]
    · rintro H' ⟨S, hD'⟩
      rw [iv_len, List.take_length] at hD'
      exact h H' D (S1.trans S) (S1.free hD) hD'
/-! ### Book.sums -/
abbrev s_sums : Stmt := inClass (top 21) 8
theorem SC_sums : FnScope ["self"] ["self"] (defScope s_sums) := ⟨rfl, rfl, rfl, by decide +kernel, rfl, by decide +kernel, by decide +kernel⟩
theorem ok_sums {f C nb : Addr} {fd : FuncData} (F : Fun K "sums" "Book.sums" s_sums f fd) (T : Txt K mg C nb) (F_sum_of_pages : FnAt P w K mg base "sum_of_pages" 2 ["leaves"] (spSum K)) (M_left : MtAt P w K mg base C "left" 2 ["self"] (spList C Ux06.left)) :
    FnOk P w K mg base CX0 3 f fd ["self"] (sp0 C .sums) := by
  refine F.ok SC_sums (fun vs H Q E h => ?_) (fun cdv A outer s H vs Q E hr h => ?_)
  · obtain ⟨p, l, b, rfl, _⟩ := h
    rfl
  · obtain ⟨p, l, b, rfl, B, h⟩ := h
    refine ⟨_, (pss_one (ps_ret (pe_lst (pa_cons (pe_fn F_sum_of_pages (hr.mono (by decide)) rfl (pa_cons (pe_fld (pv 0) rfl) pa_nil)) (pa_cons (pe_fn F_sum_of_pages (hr.mono (by decide)) rfl (pa_cons (pe_mt0 M_left (hr.mono (by decide)) (pv 0)) pa_nil)) pa_nil))))), ?_⟩
    obtain ⟨dx, ts, hp, hl, hperm⟩ := id B.ex
    have hlen : ts.length ≤ 30 := by rw [hperm.length_eq]; exact Nat.le_trans B.ok.len B.ok.hi
    have hn := B.ok.hi
    refine ⟨_, rfl, p, C, dx, _, _, rfl, hp, T.cl, T.nT, bf_torn _ _, l, ts, rfl, SqL.of hl, by omega, (fun k hk => (B.ok.mem k (hperm.mem_iff.mp hk)).1), fun H1 S1 => ?_⟩
    refine ⟨_, rfl, p, dx, _, rfl, S1 _ _ hp, bf_no _ _ (by decide +kernel) (by decide +kernel), p, l, b, rfl, B.same S1, fun H2 q2 S2 hq2 hq2' => ?_⟩
    refine ⟨q2, Ux06.left b, rfl, SqL.of hq2', (by have := left_len B.ok; omega), left_pos b, fun H3 S3 => ⟨(by show 2 ≤ sizeLine; decide), fun q hq => ?_⟩⟩
    rw [sum_perm hperm]
    exact Post.same (b := b) h B ((S1.trans S2).trans S3) hq
/-! ### Book.ways -/
abbrev s_ways : Stmt := inClass (top 21) 11
theorem SC_ways : FnScope ["self", "size", "pages"] ["self", "size", "pages"] (defScope s_ways) := ⟨rfl, rfl, rfl, by decide +kernel, rfl, by decide +kernel, by decide +kernel⟩
theorem tabs_last {H : Hp} {ds : List Addr} {ls : List Nat} (h : TabsAt H ds ls) (hl : ds.length = ls.length + 1) : ∃ d es, atI (ds.map V.ref) (-1) = some (V.ref d) ∧ H d = some (.dT (DV es)) ∧ Tab (Wn ls) es := by
  obtain ⟨d, hd⟩ : ∃ d, ds[ls.length]? = some d := ⟨_, List.getElem?_eq_getElem (by omega)⟩
  obtain ⟨es, h1, h2⟩ := h _ _ hd
  rw [Nat.sub_self, List.drop_zero] at h2
  exact ⟨_, es, atI_end (by rw [List.length_map, hl, Nat.add_sub_cancel, List.getElem?_map, hd]; rfl) (by rw [List.length_map]; omega), h1, h2⟩
theorem ok_ways {f C nb : Addr} {fd : FuncData} (F : Fun K "ways" "Book.ways" s_ways f fd) (T : Txt K mg C nb) (F_set_counts : FnAt P w K mg base "set_counts" 4 ["leaves"] (spSetCounts K)) (M_whole : MtAt P w K mg base C "whole" 1 ["self"] (spList C fun b => leaves b.n)) :
    FnOk P w K mg base CX0 5 f fd ["self", "size", "pages"] (sp2 C .ways) := by
  refine F.ok SC_ways (fun vs H Q E h => ?_) (fun cdv A outer s H vs Q E hr h => ?_)
  · obtain ⟨p, l, b, m, t, rfl, _⟩ := h
    rfl
  · obtain ⟨p, l, b, m, t, rfl, hm, ht, B, h⟩ := h
    refine ⟨_, (pss_cons (ps_if (pt_cmpR op_gt (pv 1) (pe_fld (pv 0) rfl) (nomark _))
        (pss_one (ps_ret (pe_lst (pa_cons (pe_gl rfl T.c_OUT_OF_RANGE) pa_nil))))
        pss_nil)
      (pss_one (ps_ret (pe_lst (pa_cons (pe_dget2 (hu_of hr) (pe_ix ix_list (pe_fn F_set_counts (hr.mono (by decide)) rfl (pa_cons (pe_mt0 M_whole (hr.mono (by decide)) (pv 0)) pa_nil)) (pe_un un_neg pe_int) (fun _ _ => rfl)) (pe_tup (pa_cons (pv 1) (pa_cons (pv 2) pa_nil))) pe_int ⟨rfl, rfl, rfl, rfl⟩) pa_nil))))), ?_⟩
    obtain ⟨dx, ts, hp, hl, hperm⟩ := id B.ex
    have hn := B.ok.hi
    refine ⟨_, rfl, _, rfl, p, C, dx, _, _, rfl, hp, T.cl, T.nL, bf_leaves _ _, _, _, rfl, rfl, _, rfl, ?_⟩
    refine ite2 (fun h1 => ?_) (fun h1 => ?_)
    · have h1' := of_decide_eq_true h1
      have e : Ux06.step b (.ways m t) = (b, [-1]) := by
        show (b, if b.n < m then _ else _) = _
        rw [if_pos (by omega)]
      rw [e] at h
      exact ⟨(by show 1 ≤ sizeLine; decide), fun q hq => h.same B (Same.refl H) hq⟩
    · have h1' : ¬ b.n < m := fun z => h1 (decide_eq_true (by omega))
      have e : Ux06.step b (.ways m t) = (b, Ux06.ints [Wn (leaves b.n) m t]) := by
        show (b, if b.n < m then _ else Ux06.ints [if Ux06.TOP < t then 0 else Ux06.ways (leaves b.n) m t]) = _
        rw [if_neg h1', ways_top b.n m t hn]
      rw [e] at h
      refine ⟨_, rfl, p, dx, _, rfl, hp, bf_no _ _ (by decide +kernel) (by decide +kernel), p, l, b, rfl, B, fun H1 q1 S1 hq1 hq1' => ?_⟩
      refine ⟨q1, leaves b.n, rfl, SqL.of hq1', (by rw [leaves_len]; exact hn), leaves_pos _, leaves_worth _ hn, fun H2 q2 ds S2 hq2 hq2' hdl hT => ?_⟩
      obtain ⟨d, es, hat, hd, tes⟩ := tabs_last hT hdl
      refine ⟨_, rfl, q2, _, _, _, rfl, rfl, SqL.of hq2', hat, d, rfl, .inr ⟨_, .inl hd⟩, _, rfl, _, rfl, (by show 2 ≤ sizeLine; decide), fun r hr' => ?_⟩
      refine ⟨_, DGet.t (k := kk (m : Int) (t : Int)) (by rw [upd_ne (ne_of_none hd hr')]; exact hd) upd_same, (by show 1 ≤ sizeLine; decide), fun q hq => ?_⟩
      rw [tab_get tes]
      exact Post.same (b := b) h B ((S1.trans S2).trans (Same.new hr')) hq
/-! ### Book.numbers -/
abbrev s_numbers : Stmt := inClass (top 21) 12
theorem SC_numbers : FnScope ["self", "pages", "sizes", "size"] ["self", "pages"] (defScope s_numbers) := ⟨rfl, rfl, rfl, by decide +kernel, rfl, by decide +kernel, by decide +kernel⟩
theorem ok_numbers {f C nb : Addr} {fd : FuncData} (F : Fun K "numbers" "Book.numbers" s_numbers f fd) (T : Txt K mg C nb) (F_set_exists : FnAt P w K mg base "set_exists" 2 ["leaves", "size", "pages"] spExists) :
    FnOk P w K mg base CX0 3 f fd ["self", "pages"] (sp1 C .numbers) := by
  refine F.ok SC_numbers (fun vs H Q E h => ?_) (fun cdv A outer s H vs Q E hr h => ?_)
  · obtain ⟨p, l, b, t, rfl, _⟩ := h
    rfl
  · obtain ⟨p, l, b, t, rfl, ht, B, h⟩ := h
    refine ⟨_, (pss_cons (ps_if (pt_cmpR op_gt (pv 1) (pe_gl rfl T.c_LARGEST_SUM) (nomark _))
        (pss_one (ps_ret (pe_lst (pa_cons (pe_gl rfl T.c_OUT_OF_RANGE) pa_nil))))
        pss_nil)
      (pss_cons (ps_setLc (i := 2) (own := [("size", 3)]) (tt := tB (tCall spExists [] E0 (tCons (tFld K (tVar 0) "leaves") (tCons (tVar 3) (tCons (tVar 1) tNil))))) (te := tVar 3) rfl SC_numbers.nd rfl rfl (sw_true rfl rfl rfl rfl) (pi_range1 rfl T.range (pa_cons (pe_op op_add (pe_fld (pv 0) rfl) pe_int) pa_nil)) (blkOk_by (by show blkC ["self", "pages", "sizes", "size"] (defScope s_numbers) _ [("size", 3)] = true; decide +kernel)) (fun _ _ _ _ _ => pg_name (i := 3) SC_numbers.nd rfl (Or.inl rfl)) (fun _ _ _ _ _ => pts_one (pt_val (pe_fn F_set_exists (hr.mono (by decide)) rfl (pa_cons (pe_fld (pv 0) rfl) (pa_cons (pv 3) (pa_cons (pv 1) pa_nil)))))) (fun _ _ _ _ _ => (pv 3)))
      (pss_one (ps_ret (pe_op op_cat (pe_lst (pa_cons (pe_callB call_len_seq rfl T.len PySem.boot_len (pa_cons (pv 2) pa_nil)) pa_nil)) (pv 2)))))), ?_⟩
    obtain ⟨dx, ts, hp, hl, hperm⟩ := id B.ex
    have hn := B.ok.hi
    refine ⟨_, rfl, _, _, rfl, rfl, _, rfl, ?_⟩
    refine ite2 (fun h1 => ?_) (fun h1 => ?_)
    · have h1' := of_decide_eq_true h1
      have e : Ux06.step b (.numbers t) = (b, [-1]) := by
        show (b, if Ux06.TOP < t then _ else _) = _
        rw [if_pos (show Ux06.TOP < t by unfold Ux06.TOP; omega)]
      rw [e] at h
      exact ⟨(by show 1 ≤ sizeLine; decide), fun q hq => h.same B (Same.refl H) hq⟩
    · have h1' : ¬ 1830 < t := fun z => h1 (decide_eq_true (by omega))
      have e : Ux06.step b (.numbers t) = (b, Ux06.counted ((List.range (b.n + 1)).filter fun j => Wn (leaves b.n) j t != 0)) := by
        show (b, if Ux06.TOP < t then _ else Ux06.counted (Ux06.numbers (leaves b.n) t)) = _
        rw [if_neg (show ¬ Ux06.TOP < t from h1'), numbers_eq, leaves_len]
      rw [e] at h
      refine ⟨_, rfl, p, C, dx, _, _, rfl, hp, T.cl, T.nL, bf_leaves _ _, _, _, rfl, rfl, _, rfl, by omega, by omega, fun D hD => ?_⟩
      refine lc_range (lo := 0) (n := ((b.n : Int) + 1).toNat) (fun i H' => Same H H' ∧ H' D = some (.lst (iv ((List.range i).filter fun j => Wn (leaves b.n) j t != 0)))) ⟨Same.new hD, upd_same⟩ ?_ ?_
      · rintro i H' hi ⟨S, hD'⟩
        have hi' : i < 31 := by omega
        have ef : (List.range (i + 1)).filter (fun j => Wn (leaves b.n) j t != 0) = (List.range i).filter (fun j => Wn (leaves b.n) j t != 0) ++ (if Wn (leaves b.n) i t ≠ 0 then [i] else []) := by
          rw [List.range_succ, List.filter_append]
          congr 1
          rw [List.filter_cons, List.filter_nil]
          by_cases z : Wn (leaves b.n) i t = 0 <;> simp [z]
        refine ⟨rfl, ?_⟩
        show tB (tCall spExists [] E0 (tCons (tFld K (tVar 0) "leaves") (tCons (tVar 3) (tCons (tVar 1) tNil)))) _ _ _
        refine ⟨_, rfl, p, C, dx, _, _, rfl, S _ _ hp, T.cl, T.nL, bf_leaves _ _, _, rfl, _, rfl, b.n, i, t, (by show [V.int (b.n : Int), V.int (0 + (i : Int)), V.int (t : Int)] = _; rw [Int.zero_add]), by omega, _, rfl, ?_⟩
        refine ite2 (fun h2 => ?_) (fun h2 => ?_)
        · have h2' := of_decide_eq_true h2
          rw [if_pos h2'] at ef
          show tVar 3 _ _ _
          refine ⟨_, rfl, _, hD', ?_, ?_, ?_⟩
          · rw [iv_len]
            exact Nat.lt_of_le_of_lt (Nat.le_trans (List.length_filter_le _ _) (show (List.range i).length ≤ 31 by rw [List.length_range]; omega)) (by decide)
          · intro b' o e
            rw [upd_ne (ne_of_none e hD)]
            exact S _ _ e
          · rw [upd_same, ef, iv_snoc, Int.zero_add]
        · rw [if_neg (fun z => h2 (decide_eq_true z)), List.append_nil] at ef
          exact ⟨S, by rw [ef]; exact hD'⟩
      · rintro H' ⟨S, hD'⟩
        have e1 : ((b.n : Int) + 1).toNat = b.n + 1 := by omega
        rw [e1] at hD'
        generalize hR : (List.range (b.n + 1)).filter (fun j => Wn (leaves b.n) j t != 0) = R at hD' h
        have hRl : R.length ≤ 31 := by
          rw [← hR]
          exact Nat.le_trans (List.length_filter_le _ _) (by rw [List.length_range]; omega)
        refine ⟨_, rfl, D, _, rfl, .inl (SqL.of hD'), (by show 1 ≤ sizeLine; decide), fun q1 hq1 => ?_⟩
        refine ⟨_, rfl, q1, D, _, _, rfl, rfl, upd_same, (by rw [upd_ne (ne_of_none hD' hq1)]; exact hD'), ?_, fun q hq => ?_⟩
        · show 1 + (iv R).length ≤ sizeLine
          rw [iv_len]
          exact Nat.le_trans (show 1 + R.length ≤ 32 by omega) (by decide)
        · have e2 : ([V.int ((iv R).length : Int)] ++ iv R : List V) = (Ux06.counted R).map V.int := by
            rw [iv_len]
            rfl
          rw [e2]
          exact Post.same (b := b) h B (S.trans (Same.new hq1)) hq
end
end Tl

set_option Elab.async false
set_option linter.all false
set_option maxRecDepth 100000
set_option maxHeartbeats 4000000
namespace Tl
open PySem PySem.Spec PyProof.Rows L2
open Ux06 (worth leaves)
theorem yes_of {σ : L2.St} {H : Hp} {Q : Bool → Hp → Prop} (h : Q true H) : tYes σ H Q := h
theorem sum_cast (f : Nat → Nat) : ∀ l : List Nat, (l.map fun j => ((f j : Nat) : Int)).sum = (((l.map f).sum : Nat) : Int)
  | [] => rfl
  | x :: r => by
    rw [List.map_cons, List.sum_cons, sum_cast f r, List.map_cons, List.sum_cons]
    omega
theorem flat_pI : ∀ l : List (Nat × Nat), flatP (l.map pI) = Ux06.ints (l.flatMap fun x => [x.1, x.2])
  | [] => rfl
  | p :: r => by
    have ih := flat_pI r
    unfold flatP Ux06.ints at ih ⊢
    rw [List.map_cons, List.flatMap_cons, ih, List.flatMap_cons, List.map_append]
    rfl
theorem flat_pg : ∀ l : List (Nat × Nat), (∀ g ∈ l, 1 ≤ g.1) → flatP (l.map pg) = Ux06.ints (l.flatMap fun x => [2 * x.1 - 1, 2 * x.2])
  | [], _ => rfl
  | p :: r, h => by
    have ih := flat_pg r fun g hg => h g (List.mem_cons_of_mem _ hg)
    have h1 := h p (List.mem_cons_self ..)
    unfold flatP Ux06.ints at ih ⊢
    rw [List.map_cons, List.flatMap_cons, ih, List.flatMap_cons, List.map_append]
    show [2 * (p.1 : Int) - 1, 2 * (p.2 : Int)] ++ _ = [((2 * p.1 - 1 : Nat) : Int), ((2 * p.2 : Nat) : Int)] ++ _
    rw [show ((2 * p.1 - 1 : Nat) : Int) = 2 * (p.1 : Int) - 1 by omega, show ((2 * p.2 : Nat) : Int) = 2 * (p.2 : Int) by omega]
theorem gaps_first : ∀ (l : List Nat) (g : Nat × Nat), g ∈ Ux06.gaps l → g.1 ∈ l
  | [], g, h => nomatch h
  | k :: l, g, h => by
    rw [gaps_cons] at h
    have ih := gaps_first l
    unfold gapHead at h
    cases e : Ux06.gaps l with
    | nil =>
      rw [e] at h
      have : g = (k, k) := by simpa using h
      rw [this]
      exact List.mem_cons_self ..
    | cons x r =>
      rw [e] at h ih
      have h' : g ∈ (if x.1 = k + 1 then (k, x.2) :: r else (k, k) :: (x :: r)) := h
      split at h'
      · rcases List.mem_cons.mp h' with z | z
        · rw [z]; exact List.mem_cons_self ..
        · exact List.mem_cons_of_mem _ (ih g (List.mem_cons_of_mem _ z))
      · rcases List.mem_cons.mp h' with z | z
        · rw [z]; exact List.mem_cons_self ..
        · exact List.mem_cons_of_mem _ (ih g z)
theorem gaps_len : ∀ l : List Nat, (Ux06.gaps l).length ≤ l.length
  | [] => Nat.le_refl _
  | k :: l => by
    have ih := gaps_len l
    rw [gaps_cons]
    unfold gapHead
    cases e : Ux06.gaps l with
    | nil => exact Nat.succ_le_succ (Nat.zero_le _)
    | cons x r =>
      rw [e] at ih
      show (if x.1 = k + 1 then (k, x.2) :: r else (k, k) :: (x :: r)).length ≤ _
      rw [List.length_cons] at ih ⊢
      split
      · rw [List.length_cons]; omega
      · rw [List.length_cons, List.length_cons]; omega
section
variable {P : Program} {w : World} {K : PySem.W.Frag} {mg : Str → Option Value} {base : Heap}
/-! ### Book.ways_of_any_size -/
abbrev s_ways_of_any_size : Stmt := inClass (top 21) 13
theorem SC_ways_of_any_size : FnScope ["self", "pages", "counts", "size"] ["self", "pages"] (defScope s_ways_of_any_size) := ⟨rfl, rfl, rfl, by decide +kernel, rfl, by decide +kernel, by decide +kernel⟩
theorem ok_ways_of_any_size {f C nb : Addr} {fd : FuncData} (F : Fun K "ways_of_any_size" "Book.ways_of_any_size" s_ways_of_any_size f fd) (T : Txt K mg C nb) (F_set_counts : FnAt P w K mg base "set_counts" 4 ["leaves"] (spSetCounts K)) (M_whole : MtAt P w K mg base C "whole" 1 ["self"] (spList C fun b => leaves b.n)) :
    FnOk P w K mg base CX0 5 f fd ["self", "pages"] (sp1 C .all) := by
  refine F.ok SC_ways_of_any_size (fun vs H Q E h => ?_) (fun cdv A outer s H vs Q E hr h => ?_)
  · obtain ⟨p, l, b, t, rfl, _⟩ := h
    rfl
  · obtain ⟨p, l, b, t, rfl, ht, B, h⟩ := h
    refine ⟨_, (pss_cons (ps_if (pt_cmpR op_gt (pv 1) (pe_gl rfl T.c_LARGEST_SUM) (nomark _))
        (pss_one (ps_ret (pe_lst (pa_cons (pe_gl rfl T.c_OUT_OF_RANGE) pa_nil))))
        pss_nil)
      (pss_cons (ps_set (i := 2) SC_ways_of_any_size.nd rfl (Or.inr rfl) (pe_ix ix_list (pe_fn F_set_counts (hr.mono (by decide)) rfl (pa_cons (pe_mt0 M_whole (hr.mono (by decide)) (pv 0)) pa_nil)) (pe_un un_neg pe_int) (fun _ _ => rfl)))
      (pss_one (ps_ret (pe_lst (pa_cons (pe_callB (cr_sum rfl) rfl T.sum boot_sum (pa_cons (pe_lc (own := [("size", 3)]) (te := tDGet2 (tVar 2) (tTup (tCons (tVar 3) (tCons (tVar 1) tNil))) (tC (.int 0))) rfl SC_ways_of_any_size.nd (pi_range1 rfl T.range (pa_cons (pe_op op_add (pe_fld (pv 0) rfl) pe_int) pa_nil)) (blkOk_by (by show blkC ["self", "pages", "counts", "size"] (defScope s_ways_of_any_size) _ [("size", 3)] = true; decide +kernel)) (fun _ _ _ _ _ => pg_name (i := 3) SC_ways_of_any_size.nd rfl (Or.inl rfl)) (fun _ _ _ _ _ => pts_nil) (fun _ _ _ _ _ => (pe_dget2 (hu_of hr) (pv 2) (pe_tup (pa_cons (pv 3) (pa_cons (pv 1) pa_nil))) pe_int ⟨rfl, rfl, rfl, rfl⟩))) pa_nil)) pa_nil)))))), ?_⟩
    obtain ⟨dx, ts, hp, hl, hperm⟩ := id B.ex
    have hn := B.ok.hi
    refine ⟨_, rfl, _, _, rfl, rfl, _, rfl, ?_⟩
    refine ite2 (fun h1 => ?_) (fun h1 => ?_)
    · have h1' := of_decide_eq_true h1
      have e : Ux06.step b (.all t) = (b, [-1]) := by
        show (b, if Ux06.TOP < t then _ else _) = _
        rw [if_pos (show Ux06.TOP < t by unfold Ux06.TOP; omega)]
      rw [e] at h
      exact ⟨(by show 1 ≤ sizeLine; decide), fun q hq => h.same B (Same.refl H) hq⟩
    · have h1' : ¬ 1830 < t := fun z => h1 (decide_eq_true (by omega))
      have e : Ux06.step b (.all t) = (b, Ux06.ints [((List.range (b.n + 1)).map fun j => Wn (leaves b.n) j t).sum]) := by
        show (b, if Ux06.TOP < t then _ else Ux06.ints [Ux06.all (leaves b.n) t]) = _
        rw [if_neg (show ¬ Ux06.TOP < t from h1'), all_eq, leaves_len]
      rw [e] at h
      refine ⟨_, rfl, p, dx, _, rfl, hp, bf_no _ _ (by decide +kernel) (by decide +kernel), p, l, b, rfl, B, fun H1 q1 S1 hq1 hq1' => ?_⟩
      refine ⟨q1, leaves b.n, rfl, SqL.of hq1', (by rw [leaves_len]; exact hn), leaves_pos _, leaves_worth _ hn, fun H2 q2 ds S2 hq2 hq2' hdl hT => ?_⟩
      obtain ⟨d, es, hat, hd, tes⟩ := tabs_last hT hdl
      refine ⟨_, rfl, q2, _, _, _, rfl, rfl, SqL.of hq2', hat, ?_⟩
      have S12 : Same H H2 := S1.trans S2
      refine ⟨_, rfl, p, C, dx, _, _, rfl, S12 _ _ hp, T.cl, T.nL, bf_leaves _ _, _, _, rfl, rfl, _, rfl, by omega, by omega, fun D hD => ?_⟩
      refine lc_range (lo := 0) (n := ((b.n : Int) + 1).toNat) (fun i H' => Same H2 H' ∧ H' D = some (.lst (((List.range i).map fun j => ((Wn (leaves b.n) j t : Nat) : Int)).map V.int))) ⟨Same.new hD, upd_same⟩ ?_ ?_
      · rintro i H' hi ⟨S, hD'⟩
        refine ⟨rfl, ?_⟩
        refine yes_of (iteT ?_)
        refine ⟨_, rfl, d, rfl, .inr ⟨_, .inl (S _ _ hd)⟩, _, rfl, _, rfl, (by show 2 ≤ sizeLine; decide), fun r hr' => ?_⟩
        have hDr : D ≠ r := ne_of_none hD' hr'
        refine ⟨_, DGet.t (k := kk (i : Int) (t : Int)) (by rw [upd_ne (ne_of_none (S _ _ hd) hr')]; exact S _ _ hd) (by rw [upd_same, Int.zero_add]; rfl), ?_⟩
        rw [tab_get tes]
        refine ⟨_, (by rw [upd_ne hDr]; exact hD'), ?_, ?_, ?_⟩
        · rw [List.length_map, List.length_map, List.length_range]
          exact Nat.lt_of_le_of_lt (show i ≤ 31 by omega) (by decide)
        · intro b' o e
          rw [upd_ne (ne_of_none e hD), upd_ne (ne_of_none (S _ _ e) hr')]
          exact S _ _ e
        · rw [upd_same, List.range_succ, List.map_append, List.map_append]
          rfl
      · rintro H' ⟨S, hD'⟩
        have e1 : ((b.n : Int) + 1).toNat = b.n + 1 := by omega
        rw [e1] at hD'
        refine ⟨D, _, rfl, SqL.of hD', (by show 1 ≤ sizeLine; decide), fun q hq => ?_⟩
        rw [sum_cast]
        exact Post.same (b := b) h B (S12.trans S) hq
/-! ### Book.pieces -/
abbrev s_pieces : Stmt := inClass (top 21) 14
theorem SC_pieces : FnScope ["self", "pages"] ["self", "pages"] (defScope s_pieces) := ⟨rfl, rfl, rfl, by decide +kernel, rfl, by decide +kernel, by decide +kernel⟩
theorem ok_pieces {f C nb : Addr} {fd : FuncData} (F : Fun K "pieces" "Book.pieces" s_pieces f fd) (T : Txt K mg C nb) (F_told_by_ends : FnAt P w K mg base "told_by_ends" 1 ["runs"] spTold) (F_pieces_with_sum : FnAt P w K mg base "pieces_with_sum" 3 ["leaves", "pages"] spPieces) :
    FnOk P w K mg base CX0 4 f fd ["self", "pages"] (sp1 C .pieces) := by
  refine F.ok SC_pieces (fun vs H Q E h => ?_) (fun cdv A outer s H vs Q E hr h => ?_)
  · obtain ⟨p, l, b, t, rfl, _⟩ := h
    rfl
  · obtain ⟨p, l, b, t, rfl, ht, B, h⟩ := h
    refine ⟨_, (pss_cons (ps_if (pt_cmpR op_gt (pv 1) (pe_gl rfl T.c_LARGEST_SUM) (nomark _))
        (pss_one (ps_ret (pe_lst (pa_cons (pe_gl rfl T.c_OUT_OF_RANGE) pa_nil))))
        pss_nil)
      (pss_one (ps_ret (pe_fn F_told_by_ends (hr.mono (by decide)) rfl (pa_cons (pe_fn F_pieces_with_sum (hr.mono (by decide)) rfl (pa_cons (pe_fld (pv 0) rfl) (pa_cons (pv 1) pa_nil))) pa_nil))))), ?_⟩
    obtain ⟨dx, ts, hp, hl, hperm⟩ := id B.ex
    have hn := B.ok.hi
    refine ⟨_, rfl, _, _, rfl, rfl, _, rfl, ?_⟩
    refine ite2 (fun h1 => ?_) (fun h1 => ?_)
    · have h1' := of_decide_eq_true h1
      have e : Ux06.step b (.pieces t) = (b, [-1]) := by
        show (b, if Ux06.TOP < t then _ else _) = _
        rw [if_pos (show Ux06.TOP < t by unfold Ux06.TOP; omega)]
      rw [e] at h
      exact ⟨(by show 1 ≤ sizeLine; decide), fun q hq => h.same B (Same.refl H) hq⟩
    · have h1' : ¬ 1830 < t := fun z => h1 (decide_eq_true (by omega))
      have e : Ux06.step b (.pieces t) = (b, ((Ux06.pieces b.n t).length : Int) :: Ux06.ints ((Ux06.pieces b.n t).flatMap fun x => [x.1, x.2])) := by
        show (b, if Ux06.TOP < t then _ else _) = _
        rw [if_neg (show ¬ Ux06.TOP < t from h1')]
      rw [e] at h
      refine ⟨_, rfl, p, C, dx, _, _, rfl, hp, T.cl, T.nL, bf_leaves _ _, _, rfl, b.n, t, rfl, hn, fun H1 q1 rs S1 hq1 hq1' hP => ?_⟩
      have hlen : (Ux06.pieces b.n t).length ≤ 900 := by
        have := pcs_len b.n t b.n (Nat.le_refl _)
        rw [pcs_all] at this
        exact Nat.le_trans this (Nat.mul_le_mul hn hn)
      refine ⟨q1, rs, _, rfl, hq1', hP, (by rw [List.length_map]; omega), fun H2 q2 S2 hq2 hq2' => ?_⟩
      rw [List.length_map, flat_pI] at hq2'
      exact Post.at (b := b) h B (S1.trans S2) (S1.free hq2) hq2'
/-! ### Book.gaps -/
abbrev s_gaps : Stmt := inClass (top 21) 15
theorem SC_gaps : FnScope ["self"] ["self"] (defScope s_gaps) := ⟨rfl, rfl, rfl, by decide +kernel, rfl, by decide +kernel, by decide +kernel⟩
theorem ok_gaps {f C nb : Addr} {fd : FuncData} (F : Fun K "gaps" "Book.gaps" s_gaps f fd) (T : Txt K mg C nb) (F_told_by_ends : FnAt P w K mg base "told_by_ends" 1 ["runs"] spTold) (F_runs_of_pages : FnAt P w K mg base "runs_of_pages" 2 ["leaves"] (spRuns K)) :
    FnOk P w K mg base CX0 3 f fd ["self"] (sp0 C .gaps) := by
  refine F.ok SC_gaps (fun vs H Q E h => ?_) (fun cdv A outer s H vs Q E hr h => ?_)
  · obtain ⟨p, l, b, rfl, _⟩ := h
    rfl
  · obtain ⟨p, l, b, rfl, B, h⟩ := h
    refine ⟨_, (pss_one (ps_ret (pe_fn F_told_by_ends (hr.mono (by decide)) rfl (pa_cons (pe_fn F_runs_of_pages (hr.mono (by decide)) rfl (pa_cons (pe_callB cr_sorted rfl T.sorted boot_sorted (pa_cons (pe_fld (pv 0) rfl) pa_nil)) pa_nil)) pa_nil)))), ?_⟩
    obtain ⟨dx, ts, hp, hl, hperm⟩ := id B.ex
    have hlen : ts.length ≤ 30 := by rw [hperm.length_eq]; exact Nat.le_trans B.ok.len B.ok.hi
    have hlt : b.torn.length ≤ 30 := by rw [← hperm.length_eq]; exact hlen
    refine ⟨_, rfl, p, C, dx, _, _, rfl, hp, T.cl, T.nT, bf_torn _ _, l, Ux06.ints ts, rfl, SqL.of hl, (by unfold Ux06.ints; rw [List.length_map]; omega), fun ns q2 h1 h2 hq2 => ?_⟩
    have e1 := sorted_torn B.ok hperm h1 h2
    subst e1
    refine ⟨q2, b.torn, rfl, SqL.of upd_same, by omega, fun H3 q3 rs S3 hq3 hq3' hP => ?_⟩
    refine ⟨q3, rs, _, rfl, hq3', hP, (by rw [List.length_map]; have := gaps_len b.torn; omega), fun H4 q4 S4 hq4 hq4' => ?_⟩
    rw [List.length_map, flat_pg _ (fun g hg => (B.ok.mem g.1 (gaps_first _ g hg)).1)] at hq4'
    have S2 : Same H (upd H q2 (.lst ((Ux06.ints b.torn).map V.int))) := Same.new hq2
    exact Post.at (b := b) h B ((S2.trans S3).trans S4) ((S2.trans S3).free hq4) hq4'
/-! ### Book.rid -/
abbrev s_rid : Stmt := inClass (top 21) 16
theorem SC_rid : FnScope ["self", "pages", "left", "lacking", "counts", "size"] ["self", "pages"] (defScope s_rid) := ⟨rfl, rfl, rfl, by decide +kernel, rfl, by decide +kernel, by decide +kernel⟩
theorem ok_rid {f C nb : Addr} {fd : FuncData} (F : Fun K "rid" "Book.rid" s_rid f fd) (T : Txt K mg C nb) (F_set_counts : FnAt P w K mg base "set_counts" 4 ["leaves"] (spSetCounts K)) (F_sum_of_pages : FnAt P w K mg base "sum_of_pages" 2 ["leaves"] (spSum K)) (F_first_counted : FnAt P w K mg base "first_counted" 3 ["leaves", "counts", "size", "pages"] (spFirstCounted K)) (M_left : MtAt P w K mg base C "left" 2 ["self"] (spList C Ux06.left)) :
    FnOk P w K mg base CX0 5 f fd ["self", "pages"] (sp1 C .rid) := by
  refine F.ok SC_rid (fun vs H Q E h => ?_) (fun cdv A outer s H vs Q E hr h => ?_)
  · obtain ⟨p, l, b, t, rfl, _⟩ := h
    rfl
  · obtain ⟨p, l, b, t, rfl, ht, B, h⟩ := h
    refine ⟨_, (pss_cons (ps_if (pt_cmpR op_gt (pv 1) (pe_gl rfl T.c_LARGEST_SUM) (nomark _))
        (pss_one (ps_ret (pe_lst (pa_cons (pe_gl rfl T.c_OUT_OF_RANGE) pa_nil))))
        pss_nil)
      (pss_cons (ps_set (i := 2) SC_rid.nd rfl (Or.inl rfl) (pe_mt0 M_left (hr.mono (by decide)) (pv 0)))
      (pss_cons (ps_set (i := 3) SC_rid.nd rfl (Or.inl rfl) (pe_op op_sub (pv 1) (pe_fn F_sum_of_pages (hr.mono (by decide)) rfl (pa_cons (pe_fld (pv 0) rfl) pa_nil))))
      (pss_cons (ps_set (i := 4) SC_rid.nd rfl (Or.inl rfl) (pe_fn F_set_counts (hr.mono (by decide)) rfl (pa_cons (pv 2) pa_nil)))
      (pss_cons (ps_for PassesOwn.never rfl (pi_range1 rfl T.range (pa_cons (pe_op op_add (pe_callB call_len_seq rfl T.len boot_len (pa_cons (pv 2) pa_nil)) pe_int) pa_nil)) (pg_name (i := 5) SC_rid.nd rfl (Or.inl rfl))
        (pss_one (ps_if (pt_cmp (pc_din (hu_of hr) (pe_tup (pa_cons (pv 5) (pa_cons (pv 3) pa_nil))) (pe_ix ix_list (pv 4) (pe_un un_neg pe_int) (fun _ _ => rfl))))
        (pss_one (ps_ret (pe_op op_cat (pe_lst (pa_cons (pv 5) pa_nil)) (pe_fn F_first_counted (hr.mono (by decide)) rfl (pa_cons (pv 2) (pa_cons (pv 4) (pa_cons (pv 5) (pa_cons (pv 3) pa_nil))))))))
        pss_nil)))
      (pss_one (ps_ret (pe_lst (pa_cons (pe_gl rfl T.c_NOT_THERE) pa_nil))))))))), ?_⟩
    obtain ⟨dx, ts, hp, hl, hperm⟩ := id B.ex
    have hn := B.ok.hi
    have hlen : ts.length ≤ 30 := by rw [hperm.length_eq]; exact Nat.le_trans B.ok.len B.ok.hi
    refine ⟨_, rfl, _, _, rfl, rfl, _, rfl, ?_⟩
    refine ite2 (fun h1 => ?_) (fun h1 => ?_)
    · have h1' := of_decide_eq_true h1
      have e : Ux06.step b (.rid t) = (b, [-1]) := by
        show (b, if Ux06.TOP < t then _ else _) = _
        rw [if_pos (show Ux06.TOP < t by unfold Ux06.TOP; omega)]
      rw [e] at h
      exact ⟨(by show 1 ≤ sizeLine; decide), fun q hq => h.same B (Same.refl H) hq⟩
    · have h1' : ¬ 1830 < t := fun z => h1 (decide_eq_true (by omega))
      have e : Ux06.step b (.rid t) = (b, match Ux06.rid b t with | none => [-6] | some l => Ux06.counted l) := by
        show (b, if Ux06.TOP < t then _ else _) = _
        rw [if_neg (show ¬ Ux06.TOP < t from h1')]
        rfl
      rw [e] at h
      have hL : (Ux06.left b).length ≤ 30 := Nat.le_trans (left_len B.ok) hn
      -- left = self.left()
      refine ⟨_, rfl, p, dx, _, rfl, hp, bf_no _ _ (by decide +kernel) (by decide +kernel), p, l, b, rfl, B, fun H1 a1 S1 ha1 ha1' => ?_⟩
      -- lacking = pages - sum_of_pages(self.torn)
      refine ⟨_, rfl, _, rfl, p, C, dx, _, _, rfl, S1 _ _ hp, T.cl, T.nT, bf_torn _ _, l, ts, rfl, SqL.of (S1 _ _ hl), by omega, (fun k hk => (B.ok.mem k (hperm.mem_iff.mp hk)).1), fun H2 S2 => ?_⟩
      rw [sum_perm hperm]
      refine ⟨_, _, rfl, rfl, ?_⟩
      -- counts = set_counts(left)
      refine ⟨_, rfl, a1, Ux06.left b, rfl, SqL.of (S2 _ _ ha1'), hL, left_pos b, left_worth B.ok, fun H3 q3 ds S3 hq3 hq3' hdl hT => ?_⟩
      have S13 : Same H H3 := (S1.trans S2).trans S3
      have ha3 : H3 a1 = some (.lst (iv (Ux06.left b))) := S3 _ _ (S2 _ _ ha1')
      obtain ⟨d, es, hat, hd, tes⟩ := tabs_last hT hdl
      -- for size in range(len(left) + 1)
      refine ⟨_, rfl, a1, _, rfl, .inl (SqL.of ha3), _, _, rfl, rfl, _, rfl, (by rw [iv_len]; omega), (by rw [iv_len]; omega), ?_⟩
      refine for_range (lo := 0) (n := ((((iv (Ux06.left b)).length : Nat) : Int) + 1).toNat) (fun i σ H' => ∃ v5 : Option V, σ = [some (.ref p), some (.int (t : Int)), some (.ref a1), some (.int ((t : Int) - ((Ux06.sum b.torn : Nat) : Int))), some (.ref q3), v5] ∧ Same H3 H' ∧
          ∀ j, j < i → ¬ (0 ≤ (t : Int) - ((Ux06.sum b.torn : Nat) : Int) ∧ Wn (Ux06.left b) j ((t : Int) - ((Ux06.sum b.torn : Nat) : Int)).toNat ≠ 0))
        ⟨none, rfl, Same.refl _, fun j hj => absurd hj (Nat.not_lt_zero _)⟩ ?_ ?_
      · rintro i σ H' hi ⟨v5, rfl, S, hno⟩
        refine ⟨_, rfl, _, rfl, (by show 2 ≤ sizeLine; decide), fun r hr' => ?_⟩
        have S4 : Same H' (upd H' r (.tup [V.int (0 + (i : Int)), V.int ((t : Int) - ((Ux06.sum b.torn : Nat) : Int))])) := Same.new hr'
        have S34 := S.trans S4
        refine ⟨_, rfl, _, rfl, q3, _, _, _, rfl, rfl, SqL.of (S34 _ _ hq3'), hat, d, _, rfl, DGet.t (k := kk (i : Int) ((t : Int) - ((Ux06.sum b.torn : Nat) : Int))) (S34 _ _ hd) (by rw [upd_same, Int.zero_add]; rfl), _, rfl, ?_⟩
        rw [tab_is tes]
        refine ite2 (fun h2 => ?_) (fun h2 => ?_)
        · have h2' := of_decide_eq_true h2
          rw [show ((i : Int)).toNat = i by omega] at h2'
          obtain ⟨_, hge, hw⟩ := h2'
          have hs : Ux06.sum b.torn ≤ t := by omega
          have et : ((t : Int) - ((Ux06.sum b.torn : Nat) : Int)).toNat = t - Ux06.sum b.torn := by omega
          rw [et] at hw
          have er := rid_some b t i hs hw (fun j hj => by
            have := hno j hj
            rw [et] at this
            by_cases z : Wn (Ux06.left b) j (t - Ux06.sum b.torn) = 0
            · exact z
            · exact absurd ⟨by omega, z⟩ this)
          rw [er] at h
          have hFl := F_len _ _ _ hw
          generalize hFe : Fs (Ux06.left b) i (t - Ux06.sum b.torn) = Z at h hFl
          have hil : i ≤ 30 := by
            rw [iv_len] at hi
            omega
          refine ⟨_, rfl, (by show 1 ≤ sizeLine; decide), fun q5 hq5 => ?_⟩
          have S5 := S34.trans (Same.new (o := .lst [V.int (0 + (i : Int))]) hq5)
          refine ⟨_, rfl, _, rfl, _, rfl, _, rfl, ?_⟩
          refine ⟨a1, q3, i, t - Ux06.sum b.torn, Ux06.left b, ds, ?_, SqL.of (S5 _ _ ha3), S5 _ _ hq3', hdl, hT.same S5, hL, left_pos b, fun H6 q6 S6 hq6 hq6' => ?_⟩
          · show [V.ref a1, V.ref q3, V.int (0 + (i : Int)), V.int ((t : Int) - ((Ux06.sum b.torn : Nat) : Int))] = _
            rw [Int.zero_add, show ((t : Int) - ((Ux06.sum b.torn : Nat) : Int)) = ((t - Ux06.sum b.torn : Nat) : Int) by omega]
          · rw [hFe] at hq6'
            refine ⟨q5, q6, _, _, rfl, rfl, S6 _ _ upd_same, hq6', ?_, fun q hq => ?_⟩
            · show 1 + (iv Z).length ≤ sizeLine
              rw [iv_len, hFl]
              exact Nat.le_trans (show 1 + i ≤ 31 by omega) (by decide)
            · have e2 : ([V.int (0 + (i : Int))] ++ iv Z : List V) = (Ux06.counted Z).map V.int := by
                rw [Int.zero_add, ← hFl]
                rfl
              rw [e2]
              exact Post.same (b := b) h B (S13.trans (S5.trans S6)) hq
        · refine ⟨some (V.int (0 + (i : Int))), rfl, S34, fun j hj => ?_⟩
          by_cases z : j < i
          · exact hno j z
          · have ej : j = i := by omega
            subst ej
            intro y
            exact h2 (decide_eq_true ⟨by omega, y.1, by rw [show ((j : Int)).toNat = j by omega]; exact y.2⟩)
      · rintro σ H' ⟨v5, rfl, S, hno⟩
        have er : Ux06.rid b t = none := by
          by_cases hs : t < Ux06.sum b.torn
          · exact rid_low b t hs
          · refine rid_none b t (by omega) fun m hm => ?_
            have := hno m (by rw [iv_len]; omega)
            rw [show ((t : Int) - ((Ux06.sum b.torn : Nat) : Int)).toNat = t - Ux06.sum b.torn by omega] at this
            by_cases z : Wn (Ux06.left b) m (t - Ux06.sum b.torn) = 0
            · exact z
            · exact absurd ⟨by omega, z⟩ this
        rw [er] at h
        exact ⟨(by show 1 ≤ sizeLine; decide), fun q hq => Post.same (b := b) h B (S13.trans S) hq⟩
end
end Tl

set_option Elab.async false
set_option linter.all false
set_option maxRecDepth 100000
set_option maxHeartbeats 4000000
namespace Tl
open PySem PySem.Spec PyProof.Rows L2
open Ux06 (worth leaves)
/-- how many numbers stand behind each call's number, as the program has them -/
def behindV : List V := [.int 1, .int 1, .int 1, .int 0, .int 0, .int 2, .int 2, .int 2, .int 1, .int 1, .int 1, .int 0, .int 1]
theorem behind_at {c : Int} {n : Nat} {as : List Int} {x : Ux06.Call} (h : View c n as x) : ∃ j : Nat, c = (j : Int) ∧ behindV[j]? = some (V.int (n : Int)) := by
  cases h <;> exact ⟨_, rfl, rfl⟩
theorem View.len {c : Int} {n : Nat} {as : List Int} {x : Ux06.Call} (h : View c n as x) : as.length = n := by cases h <;> rfl
theorem cut_args (ns : List Int) (i n : Nat) (h : i + 1 + n ≤ ns.length) : cutV (ns.map V.int) (some ((i : Int) + 1)) (some ((i : Int) + 1 + (n : Int))) = ((ns.drop (i + 1)).take n).map V.int := by
  unfold cutV
  rw [show ((i : Int) + 1) = ((i + 1 : Nat) : Int) by omega, show (((i + 1 : Nat) : Int) + (n : Int)) = ((i + 1 + n : Nat) : Int) by omega, HT.sIx_nat, HT.sIx_nat, List.length_map,
    Nat.min_eq_left (by omega), Nat.min_eq_left (by omega), ← List.map_drop, ← List.map_take, show i + 1 + n - (i + 1) = n by omega]
section
variable {P : Program} {w : World} {K : PySem.W.Frag} {mg : Str → Option Value} {base : Heap}
/-! ### answer -/
abbrev s_answer : Stmt := top 34
theorem SC_answer : FnScope ["book", "call", "numbers"] ["book", "call", "numbers"] (defScope s_answer) := ⟨rfl, rfl, rfl, by decide +kernel, rfl, by decide +kernel, by decide +kernel⟩
def spAnswer (C : Addr) : Sp := fun vs H Q _ => ∃ (p l a : Addr) (b : Ux06.Book) (c : Int) (n : Nat) (as : List Int) (x : Ux06.Call), vs = [.ref p, .int c, .ref a] ∧ View c n as x ∧ H a = some (.lst (as.map V.int)) ∧ BookAt C H p l b ∧ Post C H p l (Ux06.step b x).1 (Ux06.step b x).2 Q
theorem ne_int {c d : Int} (h : ¬ c = d) {A B : Prop} (hb : B) : if decide (V.int c = V.int d) = true then A else B := by
  rw [decide_eq_false (fun z => h (by injection z))]
  exact iteF hb
theorem eq_int_ite {c : Int} {A B : Prop} (ha : A) : if decide (V.int c = V.int c) = true then A else B := by
  rw [decide_eq_true rfl]
  exact iteT ha
theorem ok_answer {f C nb : Addr} {fd : FuncData} (F : Fun K "answer" "answer" s_answer f fd) (T : Txt K mg C nb)
    (M_begin : MtAt P w K mg base C "begin" 1 ["self", "leaves"] (sp1 C .book)) (M_tear : MtAt P w K mg base C "tear" 2 ["self", "leaf"] (sp1 C .tear)) (M_put : MtAt P w K mg base C "put" 2 ["self", "leaf"] (sp1 C .put)) (M_shows : MtAt P w K mg base C "shows" 1 ["self"] (sp0 C .shows)) (M_sums : MtAt P w K mg base C "sums" 3 ["self"] (sp0 C .sums)) (M_can : MtAt P w K mg base C "can" 3 ["self", "size", "pages"] (sp2 C .can)) (M_first : MtAt P w K mg base C "first" 3 ["self", "size", "pages"] (sp2 C .first)) (M_ways : MtAt P w K mg base C "ways" 5 ["self", "size", "pages"] (sp2 C .ways)) (M_numbers : MtAt P w K mg base C "numbers" 3 ["self", "pages"] (sp1 C .numbers)) (M_ways_of_any_size : MtAt P w K mg base C "ways_of_any_size" 5 ["self", "pages"] (sp1 C .all)) (M_pieces : MtAt P w K mg base C "pieces" 4 ["self", "pages"] (sp1 C .pieces)) (M_gaps : MtAt P w K mg base C "gaps" 3 ["self"] (sp0 C .gaps)) (M_rid : MtAt P w K mg base C "rid" 5 ["self", "pages"] (sp1 C .rid)) : FnOk P w K mg base CX0 6 f fd ["book", "call", "numbers"] (spAnswer C) := by
  refine F.ok SC_answer (fun vs H Q E h => ?_) (fun cdv A outer s H vs Q E hr h => ?_)
  · obtain ⟨p, l, a, b, c, n, as, x, rfl, _⟩ := h
    rfl
  · obtain ⟨p, l, a, b, c, n, as, x, rfl, hv, ha, B, h⟩ := h
    refine ⟨_, (pss_cons (ps_if (pt_cmpR op_eq (pv 1) (pe_gl rfl T.c_BOOK) (nomark _))
        (pss_one (ps_ret (pe_mt M_begin (hr.mono (by decide)) (pv 0) (pa_cons (pe_ix ix_list (pv 2) pe_int (fun _ _ => rfl)) pa_nil))))
        pss_nil)
      (pss_cons (ps_if (pt_cmpR op_eq (pv 1) (pe_gl rfl T.c_TEAR) (nomark _))
        (pss_one (ps_ret (pe_mt M_tear (hr.mono (by decide)) (pv 0) (pa_cons (pe_ix ix_list (pv 2) pe_int (fun _ _ => rfl)) pa_nil))))
        pss_nil)
      (pss_cons (ps_if (pt_cmpR op_eq (pv 1) (pe_gl rfl T.c_PUT) (nomark _))
        (pss_one (ps_ret (pe_mt M_put (hr.mono (by decide)) (pv 0) (pa_cons (pe_ix ix_list (pv 2) pe_int (fun _ _ => rfl)) pa_nil))))
        pss_nil)
      (pss_cons (ps_if (pt_cmpR op_eq (pv 1) (pe_gl rfl T.c_SHOWS) (nomark _))
        (pss_one (ps_ret (pe_mt0 M_shows (hr.mono (by decide)) (pv 0))))
        pss_nil)
      (pss_cons (ps_if (pt_cmpR op_eq (pv 1) (pe_gl rfl T.c_SUMS) (nomark _))
        (pss_one (ps_ret (pe_mt0 M_sums (hr.mono (by decide)) (pv 0))))
        pss_nil)
      (pss_cons (ps_if (pt_cmpR op_eq (pv 1) (pe_gl rfl T.c_CAN) (nomark _))
        (pss_one (ps_ret (pe_mt M_can (hr.mono (by decide)) (pv 0) (pa_cons (pe_ix ix_list (pv 2) pe_int (fun _ _ => rfl)) (pa_cons (pe_ix ix_list (pv 2) pe_int (fun _ _ => rfl)) pa_nil)))))
        pss_nil)
      (pss_cons (ps_if (pt_cmpR op_eq (pv 1) (pe_gl rfl T.c_FIRST) (nomark _))
        (pss_one (ps_ret (pe_mt M_first (hr.mono (by decide)) (pv 0) (pa_cons (pe_ix ix_list (pv 2) pe_int (fun _ _ => rfl)) (pa_cons (pe_ix ix_list (pv 2) pe_int (fun _ _ => rfl)) pa_nil)))))
        pss_nil)
      (pss_cons (ps_if (pt_cmpR op_eq (pv 1) (pe_gl rfl T.c_WAYS) (nomark _))
        (pss_one (ps_ret (pe_mt M_ways (hr.mono (by decide)) (pv 0) (pa_cons (pe_ix ix_list (pv 2) pe_int (fun _ _ => rfl)) (pa_cons (pe_ix ix_list (pv 2) pe_int (fun _ _ => rfl)) pa_nil)))))
        pss_nil)
      (pss_cons (ps_if (pt_cmpR op_eq (pv 1) (pe_gl rfl T.c_NUMBERS) (nomark _))
        (pss_one (ps_ret (pe_mt M_numbers (hr.mono (by decide)) (pv 0) (pa_cons (pe_ix ix_list (pv 2) pe_int (fun _ _ => rfl)) pa_nil))))
        pss_nil)
      (pss_cons (ps_if (pt_cmpR op_eq (pv 1) (pe_gl rfl T.c_ALL) (nomark _))
        (pss_one (ps_ret (pe_mt M_ways_of_any_size (hr.mono (by decide)) (pv 0) (pa_cons (pe_ix ix_list (pv 2) pe_int (fun _ _ => rfl)) pa_nil))))
        pss_nil)
      (pss_cons (ps_if (pt_cmpR op_eq (pv 1) (pe_gl rfl T.c_PIECES) (nomark _))
        (pss_one (ps_ret (pe_mt M_pieces (hr.mono (by decide)) (pv 0) (pa_cons (pe_ix ix_list (pv 2) pe_int (fun _ _ => rfl)) pa_nil))))
        pss_nil)
      (pss_cons (ps_if (pt_cmpR op_eq (pv 1) (pe_gl rfl T.c_GAPS) (nomark _))
        (pss_one (ps_ret (pe_mt0 M_gaps (hr.mono (by decide)) (pv 0))))
        pss_nil)
      (pss_one (ps_ret (pe_mt M_rid (hr.mono (by decide)) (pv 0) (pa_cons (pe_ix ix_list (pv 2) pe_int (fun _ _ => rfl)) pa_nil)))))))))))))))), ?_⟩
    obtain ⟨dx, ts, hp, hl, hperm⟩ := id B.ex
    have no : ∀ m : Str, ¬ m = "torn" → ¬ m = "leaves" → (bf b.n l).lookup m = none := fun m h1 h2 => bf_no _ _ h1 h2
    cases hv with
    | book k hk =>
      refine ⟨_, rfl, rfl, _, rfl, eq_int_ite ?_⟩
      exact ⟨_, rfl, p, dx, _, rfl, hp, no _ (by decide +kernel) (by decide +kernel), _, rfl, a, _, _, _, rfl, rfl, SqL.of ha, atI_nat (j := 0) rfl, p, l, b, k, rfl, hk, B, h⟩
    | tear k hk =>
      refine ⟨_, rfl, rfl, _, rfl, ne_int (by decide) ?_⟩
      refine ⟨_, rfl, rfl, _, rfl, eq_int_ite ?_⟩
      exact ⟨_, rfl, p, dx, _, rfl, hp, no _ (by decide +kernel) (by decide +kernel), _, rfl, a, _, _, _, rfl, rfl, SqL.of ha, atI_nat (j := 0) rfl, p, l, b, k, rfl, hk, B, h⟩
    | put k hk =>
      refine ⟨_, rfl, rfl, _, rfl, ne_int (by decide) ?_⟩
      refine ⟨_, rfl, rfl, _, rfl, ne_int (by decide) ?_⟩
      refine ⟨_, rfl, rfl, _, rfl, eq_int_ite ?_⟩
      exact ⟨_, rfl, p, dx, _, rfl, hp, no _ (by decide +kernel) (by decide +kernel), _, rfl, a, _, _, _, rfl, rfl, SqL.of ha, atI_nat (j := 0) rfl, p, l, b, k, rfl, hk, B, h⟩
    | shows =>
      refine ⟨_, rfl, rfl, _, rfl, ne_int (by decide) ?_⟩
      refine ⟨_, rfl, rfl, _, rfl, ne_int (by decide) ?_⟩
      refine ⟨_, rfl, rfl, _, rfl, ne_int (by decide) ?_⟩
      refine ⟨_, rfl, rfl, _, rfl, eq_int_ite ?_⟩
      exact ⟨_, rfl, p, dx, _, rfl, hp, no _ (by decide +kernel) (by decide +kernel), p, l, b, rfl, B, h⟩
    | sums =>
      refine ⟨_, rfl, rfl, _, rfl, ne_int (by decide) ?_⟩
      refine ⟨_, rfl, rfl, _, rfl, ne_int (by decide) ?_⟩
      refine ⟨_, rfl, rfl, _, rfl, ne_int (by decide) ?_⟩
      refine ⟨_, rfl, rfl, _, rfl, ne_int (by decide) ?_⟩
      refine ⟨_, rfl, rfl, _, rfl, eq_int_ite ?_⟩
      exact ⟨_, rfl, p, dx, _, rfl, hp, no _ (by decide +kernel) (by decide +kernel), p, l, b, rfl, B, h⟩
    | can m k hm hk =>
      refine ⟨_, rfl, rfl, _, rfl, ne_int (by decide) ?_⟩
      refine ⟨_, rfl, rfl, _, rfl, ne_int (by decide) ?_⟩
      refine ⟨_, rfl, rfl, _, rfl, ne_int (by decide) ?_⟩
      refine ⟨_, rfl, rfl, _, rfl, ne_int (by decide) ?_⟩
      refine ⟨_, rfl, rfl, _, rfl, ne_int (by decide) ?_⟩
      refine ⟨_, rfl, rfl, _, rfl, eq_int_ite ?_⟩
      exact ⟨_, rfl, p, dx, _, rfl, hp, no _ (by decide +kernel) (by decide +kernel), _, rfl, a, _, _, _, rfl, rfl, SqL.of ha, atI_nat (j := 0) rfl, _, rfl, a, _, _, _, rfl, rfl, SqL.of ha, atI_nat (j := 1) rfl, p, l, b, m, k, rfl, hm, hk, B, h⟩
    | first m k hm hk =>
      refine ⟨_, rfl, rfl, _, rfl, ne_int (by decide) ?_⟩
      refine ⟨_, rfl, rfl, _, rfl, ne_int (by decide) ?_⟩
      refine ⟨_, rfl, rfl, _, rfl, ne_int (by decide) ?_⟩
      refine ⟨_, rfl, rfl, _, rfl, ne_int (by decide) ?_⟩
      refine ⟨_, rfl, rfl, _, rfl, ne_int (by decide) ?_⟩
      refine ⟨_, rfl, rfl, _, rfl, ne_int (by decide) ?_⟩
      refine ⟨_, rfl, rfl, _, rfl, eq_int_ite ?_⟩
      exact ⟨_, rfl, p, dx, _, rfl, hp, no _ (by decide +kernel) (by decide +kernel), _, rfl, a, _, _, _, rfl, rfl, SqL.of ha, atI_nat (j := 0) rfl, _, rfl, a, _, _, _, rfl, rfl, SqL.of ha, atI_nat (j := 1) rfl, p, l, b, m, k, rfl, hm, hk, B, h⟩
    | ways m k hm hk =>
      refine ⟨_, rfl, rfl, _, rfl, ne_int (by decide) ?_⟩
      refine ⟨_, rfl, rfl, _, rfl, ne_int (by decide) ?_⟩
      refine ⟨_, rfl, rfl, _, rfl, ne_int (by decide) ?_⟩
      refine ⟨_, rfl, rfl, _, rfl, ne_int (by decide) ?_⟩
      refine ⟨_, rfl, rfl, _, rfl, ne_int (by decide) ?_⟩
      refine ⟨_, rfl, rfl, _, rfl, ne_int (by decide) ?_⟩
      refine ⟨_, rfl, rfl, _, rfl, ne_int (by decide) ?_⟩
      refine ⟨_, rfl, rfl, _, rfl, eq_int_ite ?_⟩
      exact ⟨_, rfl, p, dx, _, rfl, hp, no _ (by decide +kernel) (by decide +kernel), _, rfl, a, _, _, _, rfl, rfl, SqL.of ha, atI_nat (j := 0) rfl, _, rfl, a, _, _, _, rfl, rfl, SqL.of ha, atI_nat (j := 1) rfl, p, l, b, m, k, rfl, hm, hk, B, h⟩
    | numbers k hk =>
      refine ⟨_, rfl, rfl, _, rfl, ne_int (by decide) ?_⟩
      refine ⟨_, rfl, rfl, _, rfl, ne_int (by decide) ?_⟩
      refine ⟨_, rfl, rfl, _, rfl, ne_int (by decide) ?_⟩
      refine ⟨_, rfl, rfl, _, rfl, ne_int (by decide) ?_⟩
      refine ⟨_, rfl, rfl, _, rfl, ne_int (by decide) ?_⟩
      refine ⟨_, rfl, rfl, _, rfl, ne_int (by decide) ?_⟩
      refine ⟨_, rfl, rfl, _, rfl, ne_int (by decide) ?_⟩
      refine ⟨_, rfl, rfl, _, rfl, ne_int (by decide) ?_⟩
      refine ⟨_, rfl, rfl, _, rfl, eq_int_ite ?_⟩
      exact ⟨_, rfl, p, dx, _, rfl, hp, no _ (by decide +kernel) (by decide +kernel), _, rfl, a, _, _, _, rfl, rfl, SqL.of ha, atI_nat (j := 0) rfl, p, l, b, k, rfl, hk, B, h⟩
    | all k hk =>
      refine ⟨_, rfl, rfl, _, rfl, ne_int (by decide) ?_⟩
      refine ⟨_, rfl, rfl, _, rfl, ne_int (by decide) ?_⟩
      refine ⟨_, rfl, rfl, _, rfl, ne_int (by decide) ?_⟩
      refine ⟨_, rfl, rfl, _, rfl, ne_int (by decide) ?_⟩
      refine ⟨_, rfl, rfl, _, rfl, ne_int (by decide) ?_⟩
      refine ⟨_, rfl, rfl, _, rfl, ne_int (by decide) ?_⟩
      refine ⟨_, rfl, rfl, _, rfl, ne_int (by decide) ?_⟩
      refine ⟨_, rfl, rfl, _, rfl, ne_int (by decide) ?_⟩
      refine ⟨_, rfl, rfl, _, rfl, ne_int (by decide) ?_⟩
      refine ⟨_, rfl, rfl, _, rfl, eq_int_ite ?_⟩
      exact ⟨_, rfl, p, dx, _, rfl, hp, no _ (by decide +kernel) (by decide +kernel), _, rfl, a, _, _, _, rfl, rfl, SqL.of ha, atI_nat (j := 0) rfl, p, l, b, k, rfl, hk, B, h⟩
    | pieces k hk =>
      refine ⟨_, rfl, rfl, _, rfl, ne_int (by decide) ?_⟩
      refine ⟨_, rfl, rfl, _, rfl, ne_int (by decide) ?_⟩
      refine ⟨_, rfl, rfl, _, rfl, ne_int (by decide) ?_⟩
      refine ⟨_, rfl, rfl, _, rfl, ne_int (by decide) ?_⟩
      refine ⟨_, rfl, rfl, _, rfl, ne_int (by decide) ?_⟩
      refine ⟨_, rfl, rfl, _, rfl, ne_int (by decide) ?_⟩
      refine ⟨_, rfl, rfl, _, rfl, ne_int (by decide) ?_⟩
      refine ⟨_, rfl, rfl, _, rfl, ne_int (by decide) ?_⟩
      refine ⟨_, rfl, rfl, _, rfl, ne_int (by decide) ?_⟩
      refine ⟨_, rfl, rfl, _, rfl, ne_int (by decide) ?_⟩
      refine ⟨_, rfl, rfl, _, rfl, eq_int_ite ?_⟩
      exact ⟨_, rfl, p, dx, _, rfl, hp, no _ (by decide +kernel) (by decide +kernel), _, rfl, a, _, _, _, rfl, rfl, SqL.of ha, atI_nat (j := 0) rfl, p, l, b, k, rfl, hk, B, h⟩
    | gaps =>
      refine ⟨_, rfl, rfl, _, rfl, ne_int (by decide) ?_⟩
      refine ⟨_, rfl, rfl, _, rfl, ne_int (by decide) ?_⟩
      refine ⟨_, rfl, rfl, _, rfl, ne_int (by decide) ?_⟩
      refine ⟨_, rfl, rfl, _, rfl, ne_int (by decide) ?_⟩
      refine ⟨_, rfl, rfl, _, rfl, ne_int (by decide) ?_⟩
      refine ⟨_, rfl, rfl, _, rfl, ne_int (by decide) ?_⟩
      refine ⟨_, rfl, rfl, _, rfl, ne_int (by decide) ?_⟩
      refine ⟨_, rfl, rfl, _, rfl, ne_int (by decide) ?_⟩
      refine ⟨_, rfl, rfl, _, rfl, ne_int (by decide) ?_⟩
      refine ⟨_, rfl, rfl, _, rfl, ne_int (by decide) ?_⟩
      refine ⟨_, rfl, rfl, _, rfl, ne_int (by decide) ?_⟩
      refine ⟨_, rfl, rfl, _, rfl, eq_int_ite ?_⟩
      exact ⟨_, rfl, p, dx, _, rfl, hp, no _ (by decide +kernel) (by decide +kernel), p, l, b, rfl, B, h⟩
    | rid k hk =>
      refine ⟨_, rfl, rfl, _, rfl, ne_int (by decide) ?_⟩
      refine ⟨_, rfl, rfl, _, rfl, ne_int (by decide) ?_⟩
      refine ⟨_, rfl, rfl, _, rfl, ne_int (by decide) ?_⟩
      refine ⟨_, rfl, rfl, _, rfl, ne_int (by decide) ?_⟩
      refine ⟨_, rfl, rfl, _, rfl, ne_int (by decide) ?_⟩
      refine ⟨_, rfl, rfl, _, rfl, ne_int (by decide) ?_⟩
      refine ⟨_, rfl, rfl, _, rfl, ne_int (by decide) ?_⟩
      refine ⟨_, rfl, rfl, _, rfl, ne_int (by decide) ?_⟩
      refine ⟨_, rfl, rfl, _, rfl, ne_int (by decide) ?_⟩
      refine ⟨_, rfl, rfl, _, rfl, ne_int (by decide) ?_⟩
      refine ⟨_, rfl, rfl, _, rfl, ne_int (by decide) ?_⟩
      refine ⟨_, rfl, rfl, _, rfl, ne_int (by decide) ?_⟩
      exact ⟨_, rfl, p, dx, _, rfl, hp, no _ (by decide +kernel) (by decide +kernel), _, rfl, a, _, _, _, rfl, rfl, SqL.of ha, atI_nat (j := 0) rfl, p, l, b, k, rfl, hk, B, h⟩
/-! ### answers -/
abbrev s_answers : Stmt := top 35
theorem SC_answers : FnScope ["calls", "book", "told", "place", "call", "behind", "answered"] ["calls"] (defScope s_answers) := ⟨rfl, rfl, rfl, by decide +kernel, rfl, by decide +kernel, by decide +kernel⟩
def spAnswers (K : PySem.W.Frag) : Sp := fun vs H Q _ => ∃ (a : Addr) (ns : List Int), vs = [.ref a] ∧ SqL K H a (ns.map V.int) ∧ PyUx06.answers_asked ns = true ∧
  ∀ (H' : Hp) (q : Addr), H' q = some (.lst ((PyUx06.answers ns).map V.int)) → Q (.ref q) H'
def placeOf (n : Nat) (σ : L2.St) : Nat := match σ[3]? with
  | some (some (V.int z)) => n - z.toNat
  | _ => 0
theorem ok_answers {f C nb fI : Addr} {fd fdI : FuncData} (F : Fun K "answers" "answers" s_answers f fd) (T : Txt K mg C nb) (M : Mk K C fI) (GI : FnOk P w K mg base CX0 1 fI fdI ["self"] (spInit C)) (bI : Binds K fdI ["self"] [])
    (hNB : ∀ H : Hp, SqT K H nb behindV) (F_answer : FnAt P w K mg base "answer" 6 ["book", "call", "numbers"] (spAnswer C)) : FnOk P w K mg base CX0 7 f fd ["calls"] (spAnswers K) := by
  refine F.ok SC_answers (fun vs H Q E h => ?_) (fun cdv A outer s H vs Q E hr h => ?_)
  · obtain ⟨a, ns, rfl, _⟩ := h
    rfl
  · obtain ⟨a, ns, rfl, hS, hask, k⟩ := h
    obtain ⟨rs0, hrs0, hans, hall, hlen7, h40⟩ := asked_view hask
    rw [hans] at k
    refine ⟨_, (pss_cons (ps_set (i := 1) SC_answers.nd rfl (Or.inl rfl) (pe_make0 M GI (hr.mono (by decide)) rfl T.mgC bI .nil pass0))
      (pss_cons (ps_set (i := 2) SC_answers.nd rfl (Or.inl rfl) (pe_lst pa_nil))
      (pss_cons (ps_set (i := 3) SC_answers.nd rfl (Or.inl rfl) pe_int)
      (pss_cons (ps_while PassesOwn.never (pt_cmpR op_lt (pv 3) (pe_callB call_len_seq rfl T.len boot_len (pa_cons (pv 0) pa_nil)) (nomark _))
        (pss_cons (ps_set (i := 4) SC_answers.nd rfl (Or.inl rfl) (pe_ix ix_list (pv 0) (pv 3) (fun _ _ => rfl)))
      (pss_cons (ps_set (i := 5) SC_answers.nd rfl (Or.inl rfl) (pe_op op_add (pe_op op_add (pv 3) pe_int) (pe_ix ix_tup (pe_gl rfl T.c_NUMBERS_BEHIND) (pv 4) (fun _ _ => rfl))))
      (pss_cons (ps_set (i := 6) SC_answers.nd rfl (Or.inl rfl) (pe_fn F_answer (hr.mono (by decide)) rfl (pa_cons (pv 1) (pa_cons (pv 4) (pa_cons (pe_slice sl_list (pv 0) (po_some (pe_op op_add (pv 3) pe_int)) (po_some (pv 5))) pa_nil)))))
      (pss_cons (ps_expr (pe_bm PySem.F.plainAttrs_list PySem.F.slot_list_append PySem.F.type_list_append mt_append (pv 2) (pa_cons (pe_callB call_len_seq rfl T.len boot_len (pa_cons (pv 6) pa_nil)) pa_nil)))
      (pss_cons (ps_expr (pe_bm PySem.F.plainAttrs_list PySem.F.slot_list_extend PySem.F.type_list_extend mt_extend (pv 2) (pa_cons (pv 6) pa_nil)))
      (pss_one (ps_set (i := 3) SC_answers.nd rfl (Or.inl rfl) (pv 5)))))))))
      (pss_one (ps_ret (pv 2))))))), ?_⟩
    -- book = Book(); told = []; place = 0
    intro p dx hp0 hdx0 hne
    refine ⟨p, dx, rfl, upd_same, fun H1 l B1 hl1 k1 => ⟨rfl, ?_⟩⟩
    have S1 : Same H H1 := Same.made hp0 hdx0 k1
    have hl0 : H l = none := by
      by_cases e : l = p
      · rw [e]; exact hp0
      · rw [upd_ne e] at hl1
        by_cases e2 : l = dx
        · rw [e2]; exact hdx0
        · rw [upd_ne e2] at hl1
          exact hl1
    refine ⟨Nat.zero_le _, fun t ht => ?_⟩
    have ht0 : H t = none := S1.free ht
    have htl : t ≠ l := fun e => by
      obtain ⟨_, _, _, h2, _⟩ := B1.ex
      rw [← e] at h2
      rw [h2] at ht
      cases ht
    have S2 : Same H1 (upd H1 t (.lst [])) := Same.new ht
    refine while_by (fun σ H' => ∃ (i : Nat) (l : Addr) (b : Ux06.Book) (rs : List (List (List Int))) (fu : Nat) (out : List Int) (v4 v5 v6 : Option V),
        σ = [some (.ref a), some (.ref p), some (.ref t), some (.int (i : Int)), v4, v5, v6] ∧ i ≤ ns.length ∧ PyFlat.calls PyUx06.shape fu (ns.drop i) = some rs ∧ (∀ c ∈ rs, Ux06Neutral.asked1 (c.headD []) = true) ∧
        run Ux06.init rs0 = out ++ run b rs ∧ Same H H' ∧ BookAt C H' p l b ∧ H l = none ∧ t ≠ l ∧ H' t = some (.lst (out.map V.int))) (fun σ _ => placeOf ns.length σ)
      ⟨0, l, Ux06.init, rs0, ns.length, [], none, none, none, rfl, Nat.zero_le _, hrs0, hall, rfl, S1.trans S2, B1.same S2, hl0, htl, upd_same⟩ ?_ ?_
    · rintro σ H' ⟨i, l, b, rs, fu, out, v4, v5, v6, rfl, hi, hrs, hal, hrun, S, B, hl, htl, ht'⟩
      refine ⟨_, rfl, _, rfl, a, _, rfl, .inl (S.seq hS), _, _, rfl, rfl, _, rfl, ?_⟩
      rw [List.length_map]
      refine ite2 (fun hlt => ?_) (fun hlt => ?_)
      · have hlt' : i < ns.length := by have := of_decide_eq_true hlt; omega
        obtain ⟨c, hc⟩ : ∃ c, ns[i]? = some c := ⟨_, List.getElem?_eq_getElem hlt'⟩
        have hdrop : ns.drop i = c :: ns.drop (i + 1) := by
          rw [List.drop_eq_getElem_cons hlt']
          rw [List.getElem?_eq_getElem hlt'] at hc
          rw [Option.some.inj hc]
        rw [hdrop] at hrs
        obtain ⟨n, rs', f', hsh, hn, rfl, hrs'⟩ := flat_cons hrs
        rw [List.length_drop] at hn
        have hin : i + 1 + n ≤ ns.length := by omega
        have hask1 := hal _ (List.mem_cons_self ..)
        obtain ⟨x, hv, hcall⟩ := view_of (as := (ns.drop (i + 1)).take n) hsh (by rw [List.length_take, List.length_drop]; omega) hask1
        obtain ⟨j, hj, hb⟩ := behind_at hv
        rw [run_cons b _ rs' hcall] at hrun
        -- call = calls[place]
        refine ⟨_, rfl, _, rfl, a, _, _, V.int c, rfl, rfl, S.seq hS, atI_nat (by rw [List.getElem?_map, hc]; rfl), ?_⟩
        -- behind = place + 1 + NUMBERS_BEHIND[call]
        refine ⟨_, rfl, _, _, rfl, rfl, _, rfl, nb, _, _, _, rfl, rfl, hNB _, at_of hj hb, _, _, rfl, rfl, ?_⟩
        -- answered = answer(book, call, calls[place + 1:behind])
        refine ⟨_, rfl, _, rfl, _, rfl, _, rfl, _, _, rfl, rfl, _, rfl, _, rfl, _, rfl, a, _, rfl, S.seq hS, fun g hg => ?_⟩
        rw [cut_args ns i n hin]
        have S3 : Same H' (upd H' g (.lst (((ns.drop (i + 1)).take n).map V.int))) := Same.new hg
        refine ⟨p, l, g, b, c, n, _, x, rfl, hv, upd_same, B.same S3, ?_⟩
        intro H4 q l' hq0 hq B4 hql' hl' keep
        have Sx : Same H H4 := fun d o e => keep d o (S3 d o (S d o e)) (ne_of_none e hp0) (ne_of_none e hl)
        have htq : t ≠ q := by
          have z := S3 _ _ ht'
          intro e
          rw [← e] at hq0
          rw [hq0] at z
          cases z
        have htp : t ≠ p := by
          obtain ⟨_, _, h2, _⟩ := B.ex
          exact ne_of ht' h2 (by intro z; cases z)
        have ht4 : H4 t = some (.lst (out.map V.int)) := keep _ _ (S3 _ _ ht') htp htl
        have htl' : t ≠ l' := by
          rcases hl' with e | e
          · rw [e]; exact htl
          · intro z
            rw [← z] at e
            rw [S3 _ _ ht'] at e
            cases e
        have hl'0 : H l' = none := by
          rcases hl' with e | e
          · rw [e]; exact hl
          · exact (S.trans S3).free e
        have hol : (run Ux06.init rs0).length = out.length + (1 + (Ux06.step b x).2.length + (run (Ux06.step b x).1 rs').length) := by
          rw [hrun, List.length_append, List.cons_append, List.length_cons, List.length_append]
          omega
        have hsz : sizeLine = 16777216 := sizeLine_eq
        -- told.append(len(answered))
        refine ⟨_, rfl, .inl ⟨rfl, _, SqL.of ht4⟩, _, rfl, q, _, rfl, .inl (SqL.of hq), t, _, _, rfl, rfl, ht4, (by rw [List.length_map]; omega), ?_⟩
        -- told.extend(answered)
        refine ⟨_, rfl, .inl ⟨rfl, _, SqL.of upd_same⟩, _, rfl, t, q, _, _, rfl, rfl, upd_same, (by rw [upd_ne (Ne.symm htq)]; exact hq), (by rw [List.length_append, List.length_map, List.length_map, List.length_singleton]; omega), ?_⟩
        -- place = behind
        refine ⟨_, rfl, ?_⟩
        refine ⟨⟨i + 1 + n, l', (Ux06.step b x).1, rs', f', out ++ (((Ux06.step b x).2.length : Int) :: (Ux06.step b x).2), some (V.int c), some (V.int ((i + 1 + n : Nat) : Int)), some (V.ref q), ?_, hin, ?_, fun d hd => hal d (List.mem_cons_of_mem _ hd), ?_, ?_, ?_, hl'0, htl', ?_⟩, ?_⟩
        · show [_, _, _, some (V.int ((i : Int) + 1 + (n : Int))), _, some (V.int ((i : Int) + 1 + (n : Int))), _] = _
          rw [show ((i : Int) + 1 + (n : Int)) = ((i + 1 + n : Nat) : Int) by omega]
        · have e : ns.drop (i + 1 + n) = (ns.drop (i + 1)).drop n := by rw [List.drop_drop]
          rw [e]
          exact hrs'
        · rw [hrun, List.append_assoc]
        · intro d o e
          rw [upd_ne (ne_of_none e ht0), upd_ne (ne_of_none e ht0)]
          exact Sx d o e
        · obtain ⟨dx', ts', h1, h2, h3⟩ := B4.ex
          refine ⟨⟨dx', ts', ?_, ?_, h3⟩, B4.ok⟩
          · rw [upd_ne (Ne.symm htp), upd_ne (Ne.symm htp)]
            exact h1
          · rw [upd_ne (Ne.symm htl'), upd_ne (Ne.symm htl')]
            exact h2
        · rw [upd_same, List.map_append, List.append_assoc, List.map_cons, List.length_map]
          rfl
        · show ns.length - ((i : Int) + 1 + (n : Int)).toNat < ns.length - ((i : Int)).toNat
          omega
      · have hge : i = ns.length := by
          by_cases e : i < ns.length
          · exact absurd (decide_eq_true (by omega)) hlt
          · omega
        rw [hge, List.drop_length] at hrs
        have e := flat_nil hrs
        subst e
        rw [run_nil, List.append_nil] at hrun
        refine ⟨_, rfl, ?_⟩
        refine k H' t ?_
        rw [hrun]
        exact ht'
    · intro σ H' Q1 Q2 hQ hq
      obtain ⟨v, h1, v2, h2, b1, b2, h3, h4, b3, b4, h5, h6, b5, h7, h8⟩ := hq
      exact ⟨v, h1, v2, h2, b1, b2, h3, h4, b3, b4, h5, h6, b5, h7, hQ _ _ h8⟩
end
end Tl

set_option Elab.async false
set_option linter.all false
set_option maxRecDepth 100000
set_option maxHeartbeats 4000000
namespace Tl
open PySem PySem.Spec PyProof.Rows L2
theorem all_mk {P : Program} {w : World} {K : PySem.W.Frag} {h : Heap} {mg : Str → Option Value} {fa C f1 f2 f3 f4 f5 f6 f7 f8 f9 f10 f11 f12 f13 f14 f15 f16 f17 f18 f19 f20 f21 f22 f23 f24 f25 f26 f27 f28 f29 f30 f31 g19 : Addr} (X : K.In h) (G : h.Ns mainGlobals mg) (hfa : mg "answers" = some (.ref fa))
    {od1 an1 od2 an2 od3 an3 od4 an4 od5 an5 od6 an6 od7 an7 od8 an8 od9 an9 od10 an10 od11 an11 od12 an12 od13 an13 od14 an14 od15 an15 od16 an16 od17 an17 od18 an18 od19 an19 od20 an20 od21 an21 od22 an22 od23 an23 od24 an24 od25 an25 od26 an26 od27 an27 od28 an28 od29 an29 od30 an30 od31 an31 : Option Addr} {gd19 : Option Addr} {gn19 : Nat} {gs19 : Array (Option Value)}
    {sl1 sl2 sl3 sl4 sl5 sl6 sl7 sl8 sl9 sl10 sl11 sl12 sl13 sl14 sl15 sl16 sl17 sl18 sl19 sl20 sl21 sl22 sl23 sl24 sl25 sl26 sl27 sl28 sl29 sl30 sl31 : Array (Option Value)}
    {oc1 kV1 dc1 pm1 cd1 ct1 oc2 kV2 dc2 pm2 cd2 ct2 oc3 kV3 dc3 pm3 cd3 ct3 oc4 kV4 dc4 pm4 cd4 ct4 oc5 kV5 dc5 pm5 cd5 ct5 oc6 kV6 dc6 pm6 cd6 ct6 oc7 kV7 dc7 pm7 cd7 ct7 oc8 kV8 dc8 pm8 cd8 ct8 oc9 kV9 dc9 pm9 cd9 ct9 oc10 kV10 dc10 pm10 cd10 ct10 oc11 kV11 dc11 pm11 cd11 ct11 oc12 kV12 dc12 pm12 cd12 ct12 oc13 kV13 dc13 pm13 cd13 ct13 oc14 kV14 dc14 pm14 cd14 ct14 oc15 kV15 dc15 pm15 cd15 ct15 oc16 kV16 dc16 pm16 cd16 ct16 oc17 kV17 dc17 pm17 cd17 ct17 oc18 kV18 dc18 pm18 cd18 ct18 oc19 kV19 dc19 pm19 cd19 ct19 oc20 kV20 dc20 pm20 cd20 ct20 oc21 kV21 dc21 pm21 cd21 ct21 oc22 kV22 dc22 pm22 cd22 ct22 oc23 kV23 dc23 pm23 cd23 ct23 oc24 kV24 dc24 pm24 cd24 ct24 oc25 kV25 dc25 pm25 cd25 ct25 oc26 kV26 dc26 pm26 cd26 ct26 oc27 kV27 dc27 pm27 cd27 ct27 oc28 kV28 dc28 pm28 cd28 ct28 oc29 kV29 dc29 pm29 cd29 ct29 oc30 kV30 dc30 pm30 cd30 ct30 oc31 kV31 dc31 pm31 cd31 ct31 : Value}
    {tk0 tk1 tk2 tk3 tk4 tk5 tk6 tk7 tk8 tk9 tk10 tk11 tk12 tk13 tk14 tk15 tk16 tk17 tk18 tk19_0 tk19_1 tk19_2 tk19_3 tk19_4 tk19_5 tk19_6 tk19_7 tk19_8 tk19_9 tk19_10 tk19_11 tk19_12 : Tok}
    (n0 : PySem.W.nsIn K mainGlobals "LEAVES_AT_FIRST" = some (some (.int 10 tk0))) (n1 : PySem.W.nsIn K mainGlobals "MOST_LEAVES" = some (some (.int 30 tk1))) (n2 : PySem.W.nsIn K mainGlobals "LARGEST_SUM" = some (some (.int 1830 tk2))) (n3 : PySem.W.nsIn K mainGlobals "OUT_OF_RANGE" = some (some (.int (-1) tk3))) (n4 : PySem.W.nsIn K mainGlobals "NO_SUCH_LEAF" = some (some (.int (-2) tk4))) (n5 : PySem.W.nsIn K mainGlobals "ALREADY_TORN" = some (some (.int (-4) tk5))) (n6 : PySem.W.nsIn K mainGlobals "NOT_THERE" = some (some (.int (-6) tk6))) (n7 : PySem.W.nsIn K mainGlobals "BOOK" = some (some (.int 0 tk7))) (n8 : PySem.W.nsIn K mainGlobals "TEAR" = some (some (.int 1 tk8))) (n9 : PySem.W.nsIn K mainGlobals "PUT" = some (some (.int 2 tk9))) (n10 : PySem.W.nsIn K mainGlobals "SHOWS" = some (some (.int 3 tk10))) (n11 : PySem.W.nsIn K mainGlobals "SUMS" = some (some (.int 4 tk11))) (n12 : PySem.W.nsIn K mainGlobals "CAN" = some (some (.int 5 tk12))) (n13 : PySem.W.nsIn K mainGlobals "FIRST" = some (some (.int 6 tk13))) (n14 : PySem.W.nsIn K mainGlobals "WAYS" = some (some (.int 7 tk14))) (n15 : PySem.W.nsIn K mainGlobals "NUMBERS" = some (some (.int 8 tk15))) (n16 : PySem.W.nsIn K mainGlobals "ALL" = some (some (.int 9 tk16))) (n17 : PySem.W.nsIn K mainGlobals "PIECES" = some (some (.int 10 tk17))) (n18 : PySem.W.nsIn K mainGlobals "GAPS" = some (some (.int 11 tk18))) (n19 : PySem.W.nsIn K mainGlobals "NUMBERS_BEHIND" = some (some (.ref g19))) (o19 : K.lookup g19 = some ⟨.type "tuple", gd19, .seq #[.int 1 tk19_0, .int 1 tk19_1, .int 1 tk19_2, .int 0 tk19_3, .int 0 tk19_4, .int 2 tk19_5, .int 2 tk19_6, .int 2 tk19_7, .int 1 tk19_8, .int 1 tk19_9, .int 1 tk19_10, .int 0 tk19_11, .int 1 tk19_12] gn19, gs19⟩)
    (aC : PySem.W.nsIn K mainGlobals "Book" = some (some (.ref C)))
    (a1 : PySem.W.findIn K (.ref C) "__init__" = some (some (.ref f1))) (i1 : PySem.W.isFn K (.ref f1) = true)
    (l1 : K.lookup f1 = some ⟨oc1, od1, .func (PySem.W.fnOf "__init__" "Book.__init__" (defArgs s_init) (defBody s_init) (defScope s_init) .none kV1 dc1 pm1 an1 cd1 ct1), sl1⟩) (c1 : PySem.W.codeIn K cd1 "Book.__init__" = true) (k1 : PySem.W.keepIn K (.ref f1) = true)
    (a2 : PySem.W.findIn K (.ref C) "begin" = some (some (.ref f2))) (i2 : PySem.W.isFn K (.ref f2) = true)
    (l2 : K.lookup f2 = some ⟨oc2, od2, .func (PySem.W.fnOf "begin" "Book.begin" (defArgs s_begin) (defBody s_begin) (defScope s_begin) .none kV2 dc2 pm2 an2 cd2 ct2), sl2⟩) (c2 : PySem.W.codeIn K cd2 "Book.begin" = true) (k2 : PySem.W.keepIn K (.ref f2) = true)
    (a3 : PySem.W.findIn K (.ref C) "has" = some (some (.ref f3))) (i3 : PySem.W.isFn K (.ref f3) = true)
    (l3 : K.lookup f3 = some ⟨oc3, od3, .func (PySem.W.fnOf "has" "Book.has" (defArgs s_has) (defBody s_has) (defScope s_has) .none kV3 dc3 pm3 an3 cd3 ct3), sl3⟩) (c3 : PySem.W.codeIn K cd3 "Book.has" = true) (k3 : PySem.W.keepIn K (.ref f3) = true)
    (a4 : PySem.W.findIn K (.ref C) "whole" = some (some (.ref f4))) (i4 : PySem.W.isFn K (.ref f4) = true)
    (l4 : K.lookup f4 = some ⟨oc4, od4, .func (PySem.W.fnOf "whole" "Book.whole" (defArgs s_whole) (defBody s_whole) (defScope s_whole) .none kV4 dc4 pm4 an4 cd4 ct4), sl4⟩) (c4 : PySem.W.codeIn K cd4 "Book.whole" = true) (k4 : PySem.W.keepIn K (.ref f4) = true)
    (a5 : PySem.W.findIn K (.ref C) "left" = some (some (.ref f5))) (i5 : PySem.W.isFn K (.ref f5) = true)
    (l5 : K.lookup f5 = some ⟨oc5, od5, .func (PySem.W.fnOf "left" "Book.left" (defArgs s_left) (defBody s_left) (defScope s_left) .none kV5 dc5 pm5 an5 cd5 ct5), sl5⟩) (c5 : PySem.W.codeIn K cd5 "Book.left" = true) (k5 : PySem.W.keepIn K (.ref f5) = true)
    (a6 : PySem.W.findIn K (.ref C) "tear" = some (some (.ref f6))) (i6 : PySem.W.isFn K (.ref f6) = true)
    (l6 : K.lookup f6 = some ⟨oc6, od6, .func (PySem.W.fnOf "tear" "Book.tear" (defArgs s_tear) (defBody s_tear) (defScope s_tear) .none kV6 dc6 pm6 an6 cd6 ct6), sl6⟩) (c6 : PySem.W.codeIn K cd6 "Book.tear" = true) (k6 : PySem.W.keepIn K (.ref f6) = true)
    (a7 : PySem.W.findIn K (.ref C) "put" = some (some (.ref f7))) (i7 : PySem.W.isFn K (.ref f7) = true)
    (l7 : K.lookup f7 = some ⟨oc7, od7, .func (PySem.W.fnOf "put" "Book.put" (defArgs s_put) (defBody s_put) (defScope s_put) .none kV7 dc7 pm7 an7 cd7 ct7), sl7⟩) (c7 : PySem.W.codeIn K cd7 "Book.put" = true) (k7 : PySem.W.keepIn K (.ref f7) = true)
    (a8 : PySem.W.findIn K (.ref C) "shows" = some (some (.ref f8))) (i8 : PySem.W.isFn K (.ref f8) = true)
    (l8 : K.lookup f8 = some ⟨oc8, od8, .func (PySem.W.fnOf "shows" "Book.shows" (defArgs s_shows) (defBody s_shows) (defScope s_shows) .none kV8 dc8 pm8 an8 cd8 ct8), sl8⟩) (c8 : PySem.W.codeIn K cd8 "Book.shows" = true) (k8 : PySem.W.keepIn K (.ref f8) = true)
    (a9 : PySem.W.findIn K (.ref C) "sums" = some (some (.ref f9))) (i9 : PySem.W.isFn K (.ref f9) = true)
    (l9 : K.lookup f9 = some ⟨oc9, od9, .func (PySem.W.fnOf "sums" "Book.sums" (defArgs s_sums) (defBody s_sums) (defScope s_sums) .none kV9 dc9 pm9 an9 cd9 ct9), sl9⟩) (c9 : PySem.W.codeIn K cd9 "Book.sums" = true) (k9 : PySem.W.keepIn K (.ref f9) = true)
    (a10 : PySem.W.findIn K (.ref C) "can" = some (some (.ref f10))) (i10 : PySem.W.isFn K (.ref f10) = true)
    (l10 : K.lookup f10 = some ⟨oc10, od10, .func (PySem.W.fnOf "can" "Book.can" (defArgs s_can) (defBody s_can) (defScope s_can) .none kV10 dc10 pm10 an10 cd10 ct10), sl10⟩) (c10 : PySem.W.codeIn K cd10 "Book.can" = true) (k10 : PySem.W.keepIn K (.ref f10) = true)
    (a11 : PySem.W.findIn K (.ref C) "first" = some (some (.ref f11))) (i11 : PySem.W.isFn K (.ref f11) = true)
    (l11 : K.lookup f11 = some ⟨oc11, od11, .func (PySem.W.fnOf "first" "Book.first" (defArgs s_first) (defBody s_first) (defScope s_first) .none kV11 dc11 pm11 an11 cd11 ct11), sl11⟩) (c11 : PySem.W.codeIn K cd11 "Book.first" = true) (k11 : PySem.W.keepIn K (.ref f11) = true)
    (a12 : PySem.W.findIn K (.ref C) "ways" = some (some (.ref f12))) (i12 : PySem.W.isFn K (.ref f12) = true)
    (l12 : K.lookup f12 = some ⟨oc12, od12, .func (PySem.W.fnOf "ways" "Book.ways" (defArgs s_ways) (defBody s_ways) (defScope s_ways) .none kV12 dc12 pm12 an12 cd12 ct12), sl12⟩) (c12 : PySem.W.codeIn K cd12 "Book.ways" = true) (k12 : PySem.W.keepIn K (.ref f12) = true)
    (a13 : PySem.W.findIn K (.ref C) "numbers" = some (some (.ref f13))) (i13 : PySem.W.isFn K (.ref f13) = true)
    (l13 : K.lookup f13 = some ⟨oc13, od13, .func (PySem.W.fnOf "numbers" "Book.numbers" (defArgs s_numbers) (defBody s_numbers) (defScope s_numbers) .none kV13 dc13 pm13 an13 cd13 ct13), sl13⟩) (c13 : PySem.W.codeIn K cd13 "Book.numbers" = true) (k13 : PySem.W.keepIn K (.ref f13) = true)
    (a14 : PySem.W.findIn K (.ref C) "ways_of_any_size" = some (some (.ref f14))) (i14 : PySem.W.isFn K (.ref f14) = true)
    (l14 : K.lookup f14 = some ⟨oc14, od14, .func (PySem.W.fnOf "ways_of_any_size" "Book.ways_of_any_size" (defArgs s_ways_of_any_size) (defBody s_ways_of_any_size) (defScope s_ways_of_any_size) .none kV14 dc14 pm14 an14 cd14 ct14), sl14⟩) (c14 : PySem.W.codeIn K cd14 "Book.ways_of_any_size" = true) (k14 : PySem.W.keepIn K (.ref f14) = true)
    (a15 : PySem.W.findIn K (.ref C) "pieces" = some (some (.ref f15))) (i15 : PySem.W.isFn K (.ref f15) = true)
    (l15 : K.lookup f15 = some ⟨oc15, od15, .func (PySem.W.fnOf "pieces" "Book.pieces" (defArgs s_pieces) (defBody s_pieces) (defScope s_pieces) .none kV15 dc15 pm15 an15 cd15 ct15), sl15⟩) (c15 : PySem.W.codeIn K cd15 "Book.pieces" = true) (k15 : PySem.W.keepIn K (.ref f15) = true)
    (a16 : PySem.W.findIn K (.ref C) "gaps" = some (some (.ref f16))) (i16 : PySem.W.isFn K (.ref f16) = true)
    (l16 : K.lookup f16 = some ⟨oc16, od16, .func (PySem.W.fnOf "gaps" "Book.gaps" (defArgs s_gaps) (defBody s_gaps) (defScope s_gaps) .none kV16 dc16 pm16 an16 cd16 ct16), sl16⟩) (c16 : PySem.W.codeIn K cd16 "Book.gaps" = true) (k16 : PySem.W.keepIn K (.ref f16) = true)
    (a17 : PySem.W.findIn K (.ref C) "rid" = some (some (.ref f17))) (i17 : PySem.W.isFn K (.ref f17) = true)
    (l17 : K.lookup f17 = some ⟨oc17, od17, .func (PySem.W.fnOf "rid" "Book.rid" (defArgs s_rid) (defBody s_rid) (defScope s_rid) .none kV17 dc17 pm17 an17 cd17 ct17), sl17⟩) (c17 : PySem.W.codeIn K cd17 "Book.rid" = true) (k17 : PySem.W.keepIn K (.ref f17) = true)
    (a18 : PySem.W.nsIn K mainGlobals "pages_of" = some (some (.ref f18)))
    (l18 : K.lookup f18 = some ⟨oc18, od18, .func (PySem.W.fnOf "pages_of" "pages_of" (defArgs s_pages_of) (defBody s_pages_of) (defScope s_pages_of) .none kV18 dc18 pm18 an18 cd18 ct18), sl18⟩) (c18 : PySem.W.codeIn K cd18 "pages_of" = true) (k18 : PySem.W.keepIn K (.ref f18) = true)
    (a19 : PySem.W.nsIn K mainGlobals "sum_of_pages" = some (some (.ref f19)))
    (l19 : K.lookup f19 = some ⟨oc19, od19, .func (PySem.W.fnOf "sum_of_pages" "sum_of_pages" (defArgs s_sum_of_pages) (defBody s_sum_of_pages) (defScope s_sum_of_pages) .none kV19 dc19 pm19 an19 cd19 ct19), sl19⟩) (c19 : PySem.W.codeIn K cd19 "sum_of_pages" = true) (k19 : PySem.W.keepIn K (.ref f19) = true)
    (a20 : PySem.W.nsIn K mainGlobals "leaf_total" = some (some (.ref f20)))
    (l20 : K.lookup f20 = some ⟨oc20, od20, .func (PySem.W.fnOf "leaf_total" "leaf_total" (defArgs s_leaf_total) (defBody s_leaf_total) (defScope s_leaf_total) .none kV20 dc20 pm20 an20 cd20 ct20), sl20⟩) (c20 : PySem.W.codeIn K cd20 "leaf_total" = true) (k20 : PySem.W.keepIn K (.ref f20) = true)
    (a21 : PySem.W.nsIn K mainGlobals "set_exists" = some (some (.ref f21)))
    (l21 : K.lookup f21 = some ⟨oc21, od21, .func (PySem.W.fnOf "set_exists" "set_exists" (defArgs s_set_exists) (defBody s_set_exists) (defScope s_set_exists) .none kV21 dc21 pm21 an21 cd21 ct21), sl21⟩) (c21 : PySem.W.codeIn K cd21 "set_exists" = true) (k21 : PySem.W.keepIn K (.ref f21) = true)
    (a22 : PySem.W.nsIn K mainGlobals "reachable" = some (some (.ref f22)))
    (l22 : K.lookup f22 = some ⟨oc22, od22, .func (PySem.W.fnOf "reachable" "reachable" (defArgs s_reachable) (defBody s_reachable) (defScope s_reachable) .none kV22 dc22 pm22 an22 cd22 ct22), sl22⟩) (c22 : PySem.W.codeIn K cd22 "reachable" = true) (k22 : PySem.W.keepIn K (.ref f22) = true)
    (a23 : PySem.W.nsIn K mainGlobals "first_set" = some (some (.ref f23)))
    (l23 : K.lookup f23 = some ⟨oc23, od23, .func (PySem.W.fnOf "first_set" "first_set" (defArgs s_first_set) (defBody s_first_set) (defScope s_first_set) .none kV23 dc23 pm23 an23 cd23 ct23), sl23⟩) (c23 : PySem.W.codeIn K cd23 "first_set" = true) (k23 : PySem.W.keepIn K (.ref f23) = true)
    (a24 : PySem.W.nsIn K mainGlobals "set_counts" = some (some (.ref f24)))
    (l24 : K.lookup f24 = some ⟨oc24, od24, .func (PySem.W.fnOf "set_counts" "set_counts" (defArgs s_set_counts) (defBody s_set_counts) (defScope s_set_counts) .none kV24 dc24 pm24 an24 cd24 ct24), sl24⟩) (c24 : PySem.W.codeIn K cd24 "set_counts" = true) (k24 : PySem.W.keepIn K (.ref f24) = true)
    (a25 : PySem.W.nsIn K mainGlobals "counts_with" = some (some (.ref f25)))
    (l25 : K.lookup f25 = some ⟨oc25, od25, .func (PySem.W.fnOf "counts_with" "counts_with" (defArgs s_counts_with) (defBody s_counts_with) (defScope s_counts_with) .none kV25 dc25 pm25 an25 cd25 ct25), sl25⟩) (c25 : PySem.W.codeIn K cd25 "counts_with" = true) (k25 : PySem.W.keepIn K (.ref f25) = true)
    (a26 : PySem.W.nsIn K mainGlobals "first_counted" = some (some (.ref f26)))
    (l26 : K.lookup f26 = some ⟨oc26, od26, .func (PySem.W.fnOf "first_counted" "first_counted" (defArgs s_first_counted) (defBody s_first_counted) (defScope s_first_counted) .none kV26 dc26 pm26 an26 cd26 ct26), sl26⟩) (c26 : PySem.W.codeIn K cd26 "first_counted" = true) (k26 : PySem.W.keepIn K (.ref f26) = true)
    (a27 : PySem.W.nsIn K mainGlobals "pieces_with_sum" = some (some (.ref f27)))
    (l27 : K.lookup f27 = some ⟨oc27, od27, .func (PySem.W.fnOf "pieces_with_sum" "pieces_with_sum" (defArgs s_pieces_with_sum) (defBody s_pieces_with_sum) (defScope s_pieces_with_sum) .none kV27 dc27 pm27 an27 cd27 ct27), sl27⟩) (c27 : PySem.W.codeIn K cd27 "pieces_with_sum" = true) (k27 : PySem.W.keepIn K (.ref f27) = true)
    (a28 : PySem.W.nsIn K mainGlobals "runs_of_pages" = some (some (.ref f28)))
    (l28 : K.lookup f28 = some ⟨oc28, od28, .func (PySem.W.fnOf "runs_of_pages" "runs_of_pages" (defArgs s_runs_of_pages) (defBody s_runs_of_pages) (defScope s_runs_of_pages) .none kV28 dc28 pm28 an28 cd28 ct28), sl28⟩) (c28 : PySem.W.codeIn K cd28 "runs_of_pages" = true) (k28 : PySem.W.keepIn K (.ref f28) = true)
    (a29 : PySem.W.nsIn K mainGlobals "told_by_ends" = some (some (.ref f29)))
    (l29 : K.lookup f29 = some ⟨oc29, od29, .func (PySem.W.fnOf "told_by_ends" "told_by_ends" (defArgs s_told_by_ends) (defBody s_told_by_ends) (defScope s_told_by_ends) .none kV29 dc29 pm29 an29 cd29 ct29), sl29⟩) (c29 : PySem.W.codeIn K cd29 "told_by_ends" = true) (k29 : PySem.W.keepIn K (.ref f29) = true)
    (a30 : PySem.W.nsIn K mainGlobals "answer" = some (some (.ref f30)))
    (l30 : K.lookup f30 = some ⟨oc30, od30, .func (PySem.W.fnOf "answer" "answer" (defArgs s_answer) (defBody s_answer) (defScope s_answer) .none kV30 dc30 pm30 an30 cd30 ct30), sl30⟩) (c30 : PySem.W.codeIn K cd30 "answer" = true) (k30 : PySem.W.keepIn K (.ref f30) = true)
    (a31 : PySem.W.nsIn K mainGlobals "answers" = some (some (.ref f31)))
    (l31 : K.lookup f31 = some ⟨oc31, od31, .func (PySem.W.fnOf "answers" "answers" (defArgs s_answers) (defBody s_answers) (defScope s_answers) .none kV31 dc31 pm31 an31 cd31 ct31), sl31⟩) (c31 : PySem.W.codeIn K cd31 "answers" = true) (k31 : PySem.W.keepIn K (.ref f31) = true)
    (pg : PySem.W.plainGet K C Str.empty = true) (hd : PySem.W.hasDictIn K C = true) (po : PySem.W.plainOver K C = true) (sa : PySem.W.findIn K (.ref C) "__setattr__" = some (some (.builtin "object.__setattr__"))) (mk : PySem.W.makesIn K C = true) (kc : PySem.W.keepIn K (.ref C) = true)
    (x_leaves : PySem.W.findIn K (.ref C) "leaves" = some none)
    (x_torn : PySem.W.findIn K (.ref C) "torn" = some none)
    (z_len : PySem.W.nsIn K mainGlobals "len" = some none)
    (z_sum : PySem.W.nsIn K mainGlobals "sum" = some none)
    (z_sorted : PySem.W.nsIn K mainGlobals "sorted" = some none)
    (z_list : PySem.W.nsIn K mainGlobals "list" = some none)
    (z_range : PySem.W.nsIn K mainGlobals "range" = some none)
    (z_enumerate : PySem.W.nsIn K mainGlobals "enumerate" = some none)
    (z_reversed : PySem.W.nsIn K mainGlobals "reversed" = some none)
    (z_dict : PySem.W.nsIn K mainGlobals "dict" = some none)
    : ∃ fd : FuncData, (∀ (s : Shared) (us : List Value), us.length = (["calls"] : List Str).length → BindsTo s fd ⟨us, []⟩ ((["calls"] : List Str).zip us)) ∧ ∀ base : Heap, K.In base → base.Ns mainGlobals mg → FnOk P w K mg base CX0 7 fa fd ["calls"] (spAnswers K) := by
  have e := hfa.symm.trans (PySem.W.mg_of X G a31)
  cases e
  have T : Txt K mg C g19 := ⟨⟨pg, hd, po, sa⟩, x_leaves, x_torn, PySem.W.mg_of X G aC, ⟨⟨_, PySem.W.mg_of X G n0, ⟨_, rfl⟩⟩⟩, ⟨⟨_, PySem.W.mg_of X G n1, ⟨_, rfl⟩⟩⟩, ⟨⟨_, PySem.W.mg_of X G n2, ⟨_, rfl⟩⟩⟩, ⟨⟨_, PySem.W.mg_of X G n3, ⟨_, rfl⟩⟩⟩, ⟨⟨_, PySem.W.mg_of X G n4, ⟨_, rfl⟩⟩⟩, ⟨⟨_, PySem.W.mg_of X G n5, ⟨_, rfl⟩⟩⟩, ⟨⟨_, PySem.W.mg_of X G n6, ⟨_, rfl⟩⟩⟩, ⟨⟨_, PySem.W.mg_of X G n7, ⟨_, rfl⟩⟩⟩, ⟨⟨_, PySem.W.mg_of X G n8, ⟨_, rfl⟩⟩⟩, ⟨⟨_, PySem.W.mg_of X G n9, ⟨_, rfl⟩⟩⟩, ⟨⟨_, PySem.W.mg_of X G n10, ⟨_, rfl⟩⟩⟩, ⟨⟨_, PySem.W.mg_of X G n11, ⟨_, rfl⟩⟩⟩, ⟨⟨_, PySem.W.mg_of X G n12, ⟨_, rfl⟩⟩⟩, ⟨⟨_, PySem.W.mg_of X G n13, ⟨_, rfl⟩⟩⟩, ⟨⟨_, PySem.W.mg_of X G n14, ⟨_, rfl⟩⟩⟩, ⟨⟨_, PySem.W.mg_of X G n15, ⟨_, rfl⟩⟩⟩, ⟨⟨_, PySem.W.mg_of X G n16, ⟨_, rfl⟩⟩⟩, ⟨⟨_, PySem.W.mg_of X G n17, ⟨_, rfl⟩⟩⟩, ⟨⟨_, PySem.W.mg_of X G n18, ⟨_, rfl⟩⟩⟩, ⟨⟨_, PySem.W.mg_of X G n19, rfl⟩⟩, PySem.W.mg_none_of X G z_len, PySem.W.mg_none_of X G z_sum, PySem.W.mg_none_of X G z_sorted, PySem.W.mg_none_of X G z_list, PySem.W.mg_none_of X G z_range, PySem.W.mg_none_of X G z_enumerate, PySem.W.mg_none_of X G z_reversed, PySem.W.mg_none_of X G z_dict⟩
  have F1 := fun_mk (st := s_init) l1 c1 k1
  have F2 := fun_mk (st := s_begin) l2 c2 k2
  have F3 := fun_mk (st := s_has) l3 c3 k3
  have F4 := fun_mk (st := s_whole) l4 c4 k4
  have F5 := fun_mk (st := s_left) l5 c5 k5
  have F6 := fun_mk (st := s_tear) l6 c6 k6
  have F7 := fun_mk (st := s_put) l7 c7 k7
  have F8 := fun_mk (st := s_shows) l8 c8 k8
  have F9 := fun_mk (st := s_sums) l9 c9 k9
  have F10 := fun_mk (st := s_can) l10 c10 k10
  have F11 := fun_mk (st := s_first) l11 c11 k11
  have F12 := fun_mk (st := s_ways) l12 c12 k12
  have F13 := fun_mk (st := s_numbers) l13 c13 k13
  have F14 := fun_mk (st := s_ways_of_any_size) l14 c14 k14
  have F15 := fun_mk (st := s_pieces) l15 c15 k15
  have F16 := fun_mk (st := s_gaps) l16 c16 k16
  have F17 := fun_mk (st := s_rid) l17 c17 k17
  have F18 := fun_mk (st := s_pages_of) l18 c18 k18
  have F19 := fun_mk (st := s_sum_of_pages) l19 c19 k19
  have F20 := fun_mk (st := s_leaf_total) l20 c20 k20
  have F21 := fun_mk (st := s_set_exists) l21 c21 k21
  have F22 := fun_mk (st := s_reachable) l22 c22 k22
  have F23 := fun_mk (st := s_first_set) l23 c23 k23
  have F24 := fun_mk (st := s_set_counts) l24 c24 k24
  have F25 := fun_mk (st := s_counts_with) l25 c25 k25
  have F26 := fun_mk (st := s_first_counted) l26 c26 k26
  have F27 := fun_mk (st := s_pieces_with_sum) l27 c27 k27
  have F28 := fun_mk (st := s_runs_of_pages) l28 c28 k28
  have F29 := fun_mk (st := s_told_by_ends) l29 c29 k29
  have F30 := fun_mk (st := s_answer) l30 c30 k30
  have F31 := fun_mk (st := s_answers) l31 c31 k31
  have b1 := F1.binds (ps := ["self"]) fun _ _ _ _ _ _ us hl => match us, hl with | [_], _ => rfl
  have b2 := F2.binds (ps := ["self", "leaves"]) fun _ _ _ _ _ _ us hl => match us, hl with | [_, _], _ => rfl
  have b3 := F3.binds (ps := ["self", "leaf"]) fun _ _ _ _ _ _ us hl => match us, hl with | [_, _], _ => rfl
  have b4 := F4.binds (ps := ["self"]) fun _ _ _ _ _ _ us hl => match us, hl with | [_], _ => rfl
  have b5 := F5.binds (ps := ["self"]) fun _ _ _ _ _ _ us hl => match us, hl with | [_], _ => rfl
  have b6 := F6.binds (ps := ["self", "leaf"]) fun _ _ _ _ _ _ us hl => match us, hl with | [_, _], _ => rfl
  have b7 := F7.binds (ps := ["self", "leaf"]) fun _ _ _ _ _ _ us hl => match us, hl with | [_, _], _ => rfl
  have b8 := F8.binds (ps := ["self"]) fun _ _ _ _ _ _ us hl => match us, hl with | [_], _ => rfl
  have b9 := F9.binds (ps := ["self"]) fun _ _ _ _ _ _ us hl => match us, hl with | [_], _ => rfl
  have b10 := F10.binds (ps := ["self", "size", "pages"]) fun _ _ _ _ _ _ us hl => match us, hl with | [_, _, _], _ => rfl
  have b11 := F11.binds (ps := ["self", "size", "pages"]) fun _ _ _ _ _ _ us hl => match us, hl with | [_, _, _], _ => rfl
  have b12 := F12.binds (ps := ["self", "size", "pages"]) fun _ _ _ _ _ _ us hl => match us, hl with | [_, _, _], _ => rfl
  have b13 := F13.binds (ps := ["self", "pages"]) fun _ _ _ _ _ _ us hl => match us, hl with | [_, _], _ => rfl
  have b14 := F14.binds (ps := ["self", "pages"]) fun _ _ _ _ _ _ us hl => match us, hl with | [_, _], _ => rfl
  have b15 := F15.binds (ps := ["self", "pages"]) fun _ _ _ _ _ _ us hl => match us, hl with | [_, _], _ => rfl
  have b16 := F16.binds (ps := ["self"]) fun _ _ _ _ _ _ us hl => match us, hl with | [_], _ => rfl
  have b17 := F17.binds (ps := ["self", "pages"]) fun _ _ _ _ _ _ us hl => match us, hl with | [_, _], _ => rfl
  have b18 := F18.binds (ps := ["leaf"]) fun _ _ _ _ _ _ us hl => match us, hl with | [_], _ => rfl
  have b19 := F19.binds (ps := ["leaves"]) fun _ _ _ _ _ _ us hl => match us, hl with | [_], _ => rfl
  have b20 := F20.binds (ps := ["size", "pages"]) fun _ _ _ _ _ _ us hl => match us, hl with | [_, _], _ => rfl
  have b21 := F21.binds (ps := ["leaves", "size", "pages"]) fun _ _ _ _ _ _ us hl => match us, hl with | [_, _, _], _ => rfl
  have b22 := F22.binds (ps := ["low", "high", "size", "total"]) fun _ _ _ _ _ _ us hl => match us, hl with | [_, _, _, _], _ => rfl
  have b23 := F23.binds (ps := ["leaves", "size", "total"]) fun _ _ _ _ _ _ us hl => match us, hl with | [_, _, _], _ => rfl
  have b24 := F24.binds (ps := ["leaves"]) fun _ _ _ _ _ _ us hl => match us, hl with | [_], _ => rfl
  have b25 := F25.binds (ps := ["counts", "leaf"]) fun _ _ _ _ _ _ us hl => match us, hl with | [_, _], _ => rfl
  have b26 := F26.binds (ps := ["leaves", "counts", "size", "pages"]) fun _ _ _ _ _ _ us hl => match us, hl with | [_, _, _, _], _ => rfl
  have b27 := F27.binds (ps := ["leaves", "pages"]) fun _ _ _ _ _ _ us hl => match us, hl with | [_, _], _ => rfl
  have b28 := F28.binds (ps := ["leaves"]) fun _ _ _ _ _ _ us hl => match us, hl with | [_], _ => rfl
  have b29 := F29.binds (ps := ["runs"]) fun _ _ _ _ _ _ us hl => match us, hl with | [_], _ => rfl
  have b30 := F30.binds (ps := ["book", "call", "numbers"]) fun _ _ _ _ _ _ us hl => match us, hl with | [_, _, _], _ => rfl
  have b31 := F31.binds (ps := ["calls"]) fun _ _ _ _ _ _ us hl => match us, hl with | [_], _ => rfl
  have hNB : ∀ H : Hp, SqT K H g19 behindV := fun H => .inr ⟨_, _, _, o19, rfl, rfl, (by show 13 ≤ sizeLine; decide), (.cons ⟨_, rfl⟩ (.cons ⟨_, rfl⟩ (.cons ⟨_, rfl⟩ (.cons ⟨_, rfl⟩ (.cons ⟨_, rfl⟩ (.cons ⟨_, rfl⟩ (.cons ⟨_, rfl⟩ (.cons ⟨_, rfl⟩ (.cons ⟨_, rfl⟩ (.cons ⟨_, rfl⟩ (.cons ⟨_, rfl⟩ (.cons ⟨_, rfl⟩ (.cons ⟨_, rfl⟩ .nil)))))))))))))⟩
  refine ⟨PySem.W.fnOf "answers" "answers" (defArgs s_answers) (defBody s_answers) (defScope s_answers) .none kV31 dc31 pm31 an31 cd31 ct31, fun s us hu => match us, hu with | [_], _ => .of_eq rfl, fun base _ _ => ?_⟩
  have F_pages_of : FnAt P w K mg base "pages_of" 1 ["leaf"] spPages := ⟨_, _, ok_pages F18, PySem.W.mg_of X G a18, k18, b18⟩
  have F_leaf_total : FnAt P w K mg base "leaf_total" 1 ["size", "pages"] spTotal := ⟨_, _, ok_total F20, PySem.W.mg_of X G a20, k20, b20⟩
  have F_reachable : FnAt P w K mg base "reachable" 1 ["low", "high", "size", "total"] spReach := ⟨_, _, ok_reach F22, PySem.W.mg_of X G a22, k22, b22⟩
  have F_sum_of_pages : FnAt P w K mg base "sum_of_pages" 2 ["leaves"] (spSum K) := ⟨_, _, ok_sum F19 T F_pages_of, PySem.W.mg_of X G a19, k19, b19⟩
  have F_set_exists : FnAt P w K mg base "set_exists" 2 ["leaves", "size", "pages"] spExists := ⟨_, _, ok_exists F21 F_reachable F_leaf_total, PySem.W.mg_of X G a21, k21, b21⟩
  have F_first_set : FnAt P w K mg base "first_set" 2 ["leaves", "size", "total"] spFirstSet := ⟨_, _, ok_first_set F23 T F_reachable, PySem.W.mg_of X G a23, k23, b23⟩
  have F_counts_with : FnAt P w K mg base "counts_with" 3 ["counts", "leaf"] spCountsWith := ⟨_, _, ok_counts_with F25 T F_sum_of_pages, PySem.W.mg_of X G a25, k25, b25⟩
  have F_set_counts : FnAt P w K mg base "set_counts" 4 ["leaves"] (spSetCounts K) := ⟨_, _, ok_set_counts F24 T F_counts_with, PySem.W.mg_of X G a24, k24, b24⟩
  have F_first_counted : FnAt P w K mg base "first_counted" 3 ["leaves", "counts", "size", "pages"] (spFirstCounted K) := ⟨_, _, ok_first_counted F26 T F_sum_of_pages, PySem.W.mg_of X G a26, k26, b26⟩
  have F_pieces_with_sum : FnAt P w K mg base "pieces_with_sum" 3 ["leaves", "pages"] spPieces := ⟨_, _, ok_pieces_with_sum F27 T F_sum_of_pages, PySem.W.mg_of X G a27, k27, b27⟩
  have F_runs_of_pages : FnAt P w K mg base "runs_of_pages" 2 ["leaves"] (spRuns K) := ⟨_, _, ok_runs_of_pages F28 T F_pages_of, PySem.W.mg_of X G a28, k28, b28⟩
  have F_told_by_ends : FnAt P w K mg base "told_by_ends" 1 ["runs"] spTold := ⟨_, _, ok_told_by_ends F29 T, PySem.W.mg_of X G a29, k29, b29⟩
  have M_begin : MtAt P w K mg base C "begin" 1 ["self", "leaves"] (sp1 C .book) := ⟨T.cl, _, _, ok_begin F2 T, ⟨a2, i2, k2⟩, b2⟩
  have M_has : MtAt P w K mg base C "has" 1 ["self", "leaf"] (spHas C) := ⟨T.cl, _, _, ok_has F3 T, ⟨a3, i3, k3⟩, b3⟩
  have M_whole : MtAt P w K mg base C "whole" 1 ["self"] (spList C fun b => Ux06.leaves b.n) := ⟨T.cl, _, _, ok_whole F4 T, ⟨a4, i4, k4⟩, b4⟩
  have M_left : MtAt P w K mg base C "left" 2 ["self"] (spList C Ux06.left) := ⟨T.cl, _, _, ok_left F5 T M_whole, ⟨a5, i5, k5⟩, b5⟩
  have M_tear : MtAt P w K mg base C "tear" 2 ["self", "leaf"] (sp1 C .tear) := ⟨T.cl, _, _, ok_tear F6 T M_has F_pages_of, ⟨a6, i6, k6⟩, b6⟩
  have M_put : MtAt P w K mg base C "put" 2 ["self", "leaf"] (sp1 C .put) := ⟨T.cl, _, _, ok_put F7 T M_has F_pages_of, ⟨a7, i7, k7⟩, b7⟩
  have M_shows : MtAt P w K mg base C "shows" 1 ["self"] (sp0 C .shows) := ⟨T.cl, _, _, ok_shows F8 T, ⟨a8, i8, k8⟩, b8⟩
  have M_sums : MtAt P w K mg base C "sums" 3 ["self"] (sp0 C .sums) := ⟨T.cl, _, _, ok_sums F9 T F_sum_of_pages M_left, ⟨a9, i9, k9⟩, b9⟩
  have M_can : MtAt P w K mg base C "can" 3 ["self", "size", "pages"] (sp2 C .can) := ⟨T.cl, _, _, ok_can F10 T F_set_exists, ⟨a10, i10, k10⟩, b10⟩
  have M_first : MtAt P w K mg base C "first" 3 ["self", "size", "pages"] (sp2 C .first) := ⟨T.cl, _, _, ok_first F11 T F_set_exists F_leaf_total F_first_set, ⟨a11, i11, k11⟩, b11⟩
  have M_ways : MtAt P w K mg base C "ways" 5 ["self", "size", "pages"] (sp2 C .ways) := ⟨T.cl, _, _, ok_ways F12 T F_set_counts M_whole, ⟨a12, i12, k12⟩, b12⟩
  have M_numbers : MtAt P w K mg base C "numbers" 3 ["self", "pages"] (sp1 C .numbers) := ⟨T.cl, _, _, ok_numbers F13 T F_set_exists, ⟨a13, i13, k13⟩, b13⟩
  have M_ways_of_any_size : MtAt P w K mg base C "ways_of_any_size" 5 ["self", "pages"] (sp1 C .all) := ⟨T.cl, _, _, ok_ways_of_any_size F14 T F_set_counts M_whole, ⟨a14, i14, k14⟩, b14⟩
  have M_pieces : MtAt P w K mg base C "pieces" 4 ["self", "pages"] (sp1 C .pieces) := ⟨T.cl, _, _, ok_pieces F15 T F_told_by_ends F_pieces_with_sum, ⟨a15, i15, k15⟩, b15⟩
  have M_gaps : MtAt P w K mg base C "gaps" 3 ["self"] (sp0 C .gaps) := ⟨T.cl, _, _, ok_gaps F16 T F_told_by_ends F_runs_of_pages, ⟨a16, i16, k16⟩, b16⟩
  have M_rid : MtAt P w K mg base C "rid" 5 ["self", "pages"] (sp1 C .rid) := ⟨T.cl, _, _, ok_rid F17 T F_set_counts F_sum_of_pages F_first_counted M_left, ⟨a17, i17, k17⟩, b17⟩
  have F_answer : FnAt P w K mg base "answer" 6 ["book", "call", "numbers"] (spAnswer C) := ⟨_, _, ok_answer F30 T M_begin M_tear M_put M_shows M_sums M_can M_first M_ways M_numbers M_ways_of_any_size M_pieces M_gaps M_rid, PySem.W.mg_of X G a30, k30, b30⟩
  exact ok_answers F31 T ⟨mk, a1, i1, kc⟩ (ok_init_def F1 T) b1 hNB F_answer
end Tl
open PySem PySem.W PyProof.Rows
set_option maxRecDepth 100000 in
set_option maxHeartbeats 0 in
theorem PySem.Challenge.cw_tornleaves_s01_answers_holds : PySem.Challenge.rw_tornleaves_s01_answers.Holds := by
  w_on; k_headS; (case hw => exact ⟨[.list [.int 3]], by decide +kernel, by decide +kernel⟩)
  k_fillS
  refine L2.walk_specK (r := PySem.Challenge.rw_tornleaves_s01_answers) (k := 7) (CX := L2.CX0) (ps := ["calls"]) (sp := Tl.spAnswers) (by decide +kernel) rfl rfl ⟨rfl, by decide, by decide⟩ (fun w h Y => PySem.W.kIn_of Y) ?F ?S (fun _ _ _ _ z => z)
  case F =>
    intro w mg fa h Y KX G hmg
    refine' Tl.all_mk KX G hmg ?n0 ?n1 ?n2 ?n3 ?n4 ?n5 ?n6 ?n7 ?n8 ?n9 ?n10 ?n11 ?n12 ?n13 ?n14 ?n15 ?n16 ?n17 ?n18 ?n19 ?o19 ?aC ?a1 ?i1 ?l1 ?c1 ?k1 ?a2 ?i2 ?l2 ?c2 ?k2 ?a3 ?i3 ?l3 ?c3 ?k3 ?a4 ?i4 ?l4 ?c4 ?k4 ?a5 ?i5 ?l5 ?c5 ?k5 ?a6 ?i6 ?l6 ?c6 ?k6 ?a7 ?i7 ?l7 ?c7 ?k7 ?a8 ?i8 ?l8 ?c8 ?k8 ?a9 ?i9 ?l9 ?c9 ?k9 ?a10 ?i10 ?l10 ?c10 ?k10 ?a11 ?i11 ?l11 ?c11 ?k11 ?a12 ?i12 ?l12 ?c12 ?k12 ?a13 ?i13 ?l13 ?c13 ?k13 ?a14 ?i14 ?l14 ?c14 ?k14 ?a15 ?i15 ?l15 ?c15 ?k15 ?a16 ?i16 ?l16 ?c16 ?k16 ?a17 ?i17 ?l17 ?c17 ?k17 ?a18 ?l18 ?c18 ?k18 ?a19 ?l19 ?c19 ?k19 ?a20 ?l20 ?c20 ?k20 ?a21 ?l21 ?c21 ?k21 ?a22 ?l22 ?c22 ?k22 ?a23 ?l23 ?c23 ?k23 ?a24 ?l24 ?c24 ?k24 ?a25 ?l25 ?c25 ?k25 ?a26 ?l26 ?c26 ?k26 ?a27 ?l27 ?c27 ?k27 ?a28 ?l28 ?c28 ?k28 ?a29 ?l29 ?c29 ?k29 ?a30 ?l30 ?c30 ?k30 ?a31 ?l31 ?c31 ?k31 ?pg ?hd ?po ?sa ?mk ?kc ?x_leaves ?x_torn ?z_len ?z_sum ?z_sorted ?z_list ?z_range ?z_enumerate ?z_reversed ?z_dict
    (case n0 => k_is)
    (case n1 => k_is)
    (case n2 => k_is)
    (case n3 => k_is)
    (case n4 => k_is)
    (case n5 => k_is)
    (case n6 => k_is)
    (case n7 => k_is)
    (case n8 => k_is)
    (case n9 => k_is)
    (case n10 => k_is)
    (case n11 => k_is)
    (case n12 => k_is)
    (case n13 => k_is)
    (case n14 => k_is)
    (case n15 => k_is)
    (case n16 => k_is)
    (case n17 => k_is)
    (case n18 => k_is)
    (case n19 => k_is)
    (case o19 => k_is)
    (case aC => k_is)
    (case a1 => k_is)
    (case i1 => k_is)
    (case l1 => k_is)
    (case c1 => k_is)
    (case k1 => k_is)
    (case a2 => k_is)
    (case i2 => k_is)
    (case l2 => k_is)
    (case c2 => k_is)
    (case k2 => k_is)
    (case a3 => k_is)
    (case i3 => k_is)
    (case l3 => k_is)
    (case c3 => k_is)
    (case k3 => k_is)
    (case a4 => k_is)
    (case i4 => k_is)
    (case l4 => k_is)
    (case c4 => k_is)
    (case k4 => k_is)
    (case a5 => k_is)
    (case i5 => k_is)
    (case l5 => k_is)
    (case c5 => k_is)
    (case k5 => k_is)
    (case a6 => k_is)
    (case i6 => k_is)
    (case l6 => k_is)
    (case c6 => k_is)
    (case k6 => k_is)
    (case a7 => k_is)
    (case i7 => k_is)
    (case l7 => k_is)
    (case c7 => k_is)
    (case k7 => k_is)
    (case a8 => k_is)
    (case i8 => k_is)
    (case l8 => k_is)
    (case c8 => k_is)
    (case k8 => k_is)
    (case a9 => k_is)
    (case i9 => k_is)
    (case l9 => k_is)
    (case c9 => k_is)
    (case k9 => k_is)
    (case a10 => k_is)
    (case i10 => k_is)
    (case l10 => k_is)
    (case c10 => k_is)
    (case k10 => k_is)
    (case a11 => k_is)
    (case i11 => k_is)
    (case l11 => k_is)
    (case c11 => k_is)
    (case k11 => k_is)
    (case a12 => k_is)
    (case i12 => k_is)
    (case l12 => k_is)
    (case c12 => k_is)
    (case k12 => k_is)
    (case a13 => k_is)
    (case i13 => k_is)
    (case l13 => k_is)
    (case c13 => k_is)
    (case k13 => k_is)
    (case a14 => k_is)
    (case i14 => k_is)
    (case l14 => k_is)
    (case c14 => k_is)
    (case k14 => k_is)
    (case a15 => k_is)
    (case i15 => k_is)
    (case l15 => k_is)
    (case c15 => k_is)
    (case k15 => k_is)
    (case a16 => k_is)
    (case i16 => k_is)
    (case l16 => k_is)
    (case c16 => k_is)
    (case k16 => k_is)
    (case a17 => k_is)
    (case i17 => k_is)
    (case l17 => k_is)
    (case c17 => k_is)
    (case k17 => k_is)
    (case a18 => k_is)
    (case l18 => k_is)
    (case c18 => k_is)
    (case k18 => k_is)
    (case a19 => k_is)
    (case l19 => k_is)
    (case c19 => k_is)
    (case k19 => k_is)
    (case a20 => k_is)
    (case l20 => k_is)
    (case c20 => k_is)
    (case k20 => k_is)
    (case a21 => k_is)
    (case l21 => k_is)
    (case c21 => k_is)
    (case k21 => k_is)
    (case a22 => k_is)
    (case l22 => k_is)
    (case c22 => k_is)
    (case k22 => k_is)
    (case a23 => k_is)
    (case l23 => k_is)
    (case c23 => k_is)
    (case k23 => k_is)
    (case a24 => k_is)
    (case l24 => k_is)
    (case c24 => k_is)
    (case k24 => k_is)
    (case a25 => k_is)
    (case l25 => k_is)
    (case c25 => k_is)
    (case k25 => k_is)
    (case a26 => k_is)
    (case l26 => k_is)
    (case c26 => k_is)
    (case k26 => k_is)
    (case a27 => k_is)
    (case l27 => k_is)
    (case c27 => k_is)
    (case k27 => k_is)
    (case a28 => k_is)
    (case l28 => k_is)
    (case c28 => k_is)
    (case k28 => k_is)
    (case a29 => k_is)
    (case l29 => k_is)
    (case c29 => k_is)
    (case k29 => k_is)
    (case a30 => k_is)
    (case l30 => k_is)
    (case c30 => k_is)
    (case k30 => k_is)
    (case a31 => k_is)
    (case l31 => k_is)
    (case c31 => k_is)
    (case k31 => k_is)
    (case pg => k_is)
    (case hd => k_is)
    (case po => k_is)
    (case sa => k_is)
    (case mk => k_is)
    (case kc => k_is)
    (case x_leaves => k_is)
    (case x_torn => k_is)
    (case z_len => k_is)
    (case z_sum => k_is)
    (case z_sorted => k_is)
    (case z_list => k_is)
    (case z_range => k_is)
    (case z_enumerate => k_is)
    (case z_reversed => k_is)
    (case z_dict => k_is)
  case S =>
    intro K H xs a hO hwi hask hx
    cases hx with
    | cons h1 h2 =>
      cases h2
      cases h1 with
      | lst hs ha =>
        have e := L2.ints_dw a.1 _ ha
        subst e
        have q : PyUx06.answers_asked a.1 = true := hask
        exact ⟨_, a.1, rfl, hs, q, fun H' p hp => .lst (L2.SqL.of hp) (L2.dw_ints _)⟩
