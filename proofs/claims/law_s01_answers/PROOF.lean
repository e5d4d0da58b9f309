import PyProof.Rows.All
import Wide.All
import OpenK.AllK
import Wide.FinOn
import PyProof.EqAt
import PyProof.EqKinds
import PyProof.TupleCall
import KE.BitLaws
import Open.SpecLaws
import KE.OsHead
import KE.OsGo
import PyProof.P3In
import PySem.Challenge.RW_mostfavoured_s01_answers
section
-- CHANGE: your row's module here, as the last of these rows
set_option Elab.async false
set_option linter.all false
set_option maxRecDepth 100000
/-! THE HAND LAYER, for ints, bools, texts, own classes, lists, tuples, dicts, comprehensions, walks over dicts, enumerate, zip, reversed, texts, calls, loops. Paste it whole ahead of your own text; what your proof does not reach may be deleted. -/
namespace L2
open PySem PySem.Spec PyProof.Rows

/-- a key: an int or a str -/
abbrev Key := Sum Int Str
def keyIs : Key → Value → Bool
  | .inl k, v => Value.isInt k v
  | .inr x, v => Value.isStrOf x v
def keyH (w : World) : Key → Int
  | .inl k => hashInt k
  | .inr x => hashStr w x
theorem keyIs_shape : ∀ {k : Key} {v : Value}, keyIs k v = true → (∃ i t, k = Sum.inl i ∧ v = Value.int i t) ∨ (∃ x t, k = Sum.inr x ∧ v = Value.str x t)
  | .inl i, v, h => by
    obtain ⟨t, e⟩ := Value.isInt_shape (k := i) (v := v) h
    exact .inl ⟨i, t, rfl, e⟩
  | .inr x, v, h => by
    obtain ⟨t, e⟩ := Value.isStrOf_shape (x := x) (v := v) h
    exact .inr ⟨x, t, rfl, e⟩
theorem keyIs_int (i : Int) (t : Tok) : keyIs (.inl i) (.int i t) = true := by simp [keyIs, Value.isInt]
theorem keyIs_str (x : Str) (t : Tok) : keyIs (.inr x) (.str x t) = true := by simp [keyIs, Value.isStrOf]
theorem key_ll (a b : Int) : decide ((Sum.inl a : Key) = Sum.inl b) = (a == b) := by
  by_cases e : a = b
  · subst e; simp
  · have h : ¬ (Sum.inl a : Key) = Sum.inl b := fun q => e (Sum.inl.inj q)
    rw [decide_eq_false h]
    exact (beq_eq_false_iff_ne.mpr e).symm
theorem key_rr (a b : Str) : decide ((Sum.inr a : Key) = Sum.inr b) = decide (a = b) := by
  by_cases e : a = b
  · subst e; simp
  · have h : ¬ (Sum.inr a : Key) = Sum.inr b := fun q => e (Sum.inr.inj q)
    rw [decide_eq_false h, decide_eq_false e]
theorem key_lr (a : Int) (b : Str) : decide ((Sum.inl a : Key) = Sum.inr b) = false := decide_eq_false (fun q => nomatch q)
theorem key_rl (a : Str) (b : Int) : decide ((Sum.inr a : Key) = Sum.inl b) = false := decide_eq_false (fun q => nomatch q)

def mixKind (prog : Program) (w : World) : PySem.KeyKind prog w Key where
  is := keyIs
  hash := keyH w
  inj := fun v a b ha hb => by
    rcases keyIs_shape ha with ⟨i, t, rfl, rfl⟩ | ⟨x, t, rfl, rfl⟩
    · rcases keyIs_shape hb with ⟨j, u, rfl, e⟩ | ⟨y, u, rfl, e⟩
      · injection e with e1 _; rw [e1]
      · exact nomatch e
    · rcases keyIs_shape hb with ⟨j, u, rfl, e⟩ | ⟨y, u, rfl, e⟩
      · exact nomatch e
      · injection e with e1 _; rw [e1]
  byValue := fun k v h => by
    rcases keyIs_shape h with ⟨i, t, rfl, rfl⟩ | ⟨x, t, rfl, rfl⟩ <;> rfl
  pyHash := fun hv h => by
    rcases keyIs_shape hv with ⟨i, t, rfl, rfl⟩ | ⟨x, t, rfl, rfl⟩
    · exact wpAny_pyHash_int h
    · exact wpAny_pyHash_str h
  eqBool := fun hu hv h => by
    rcases keyIs_shape hu with ⟨i, t, rfl, rfl⟩ | ⟨x, t, rfl, rfl⟩
    · rcases keyIs_shape hv with ⟨j, u, rfl, rfl⟩ | ⟨y, u, rfl, rfl⟩
      · rw [key_ll] at h; exact wpAny_eqBool_int h
      · rw [key_lr] at h; exact SeqAt.EqAt.int_str i t y u _ _ _ _ h
    · rcases keyIs_shape hv with ⟨j, u, rfl, rfl⟩ | ⟨y, u, rfl, rfl⟩
      · rw [key_rl] at h; exact SeqAt.EqAt.str_int x t j u _ _ _ _ h
      · rw [key_rr] at h; exact wpAny_eqBool_str h
  «strs» := fun k x t v h => by
    rcases keyIs_shape h with ⟨i, u, rfl, e⟩ | ⟨y, u, rfl, e⟩
    · exact nomatch e
    · injection e with e1 _
      subst e1
      cases v <;> rfl

theorem mixKind_int (prog : Program) (w : World) (i : Int) (t : Tok) : (mixKind prog w).is (.inl i) (.int i t) = true := keyIs_int i t
theorem mixKind_str (prog : Program) (w : World) (x : Str) (t : Tok) : (mixKind prog w).is (.inr x) (.str x t) = true := keyIs_str x t
end L2

namespace L2
open PySem PySem.Spec PyProof.Rows

/-- a value, without the heap -/
inductive V where
  | non | bl (b : Bool) | int (i : Int) | str (x : Str) | byt (b : Array UInt8) | flt (b : UInt64) | ref (a : Addr) | ty (n : String)
  deriving DecidableEq

def RelV : V → Value → Prop
  | .non, u => u = Value.none
  | .bl b, u => u = Value.bool b
  | .int i, u => ∃ t, u = Value.int i t
  | .str x, u => ∃ t, u = Value.str x t
  | .byt b, u => ∃ t, u = Value.bytes b t
  | .flt b, u => ∃ t, u = Value.float b t
  | .ref a, u => u = Value.ref a
  | .ty n, u => u = Value.type n

abbrev Vals : List V → List Value → Prop := Paired RelV
theorem Vals.length {xs : List V} {us : List Value} (r : Vals xs us) : xs.length = us.length := Paired.length r
theorem Vals.get : ∀ {xs : List V} {us : List Value} {i : Nat} {x : V}, Vals xs us → xs[i]? = some x → ∃ u, us[i]? = some u ∧ RelV x u
  | _, _, _, _, .nil, e => by simp at e
  | _, _, 0, _, .cons r _, e => by simp at e; subst e; exact ⟨_, rfl, r⟩
  | _, _, i + 1, x, .cons _ t, e => by
    obtain ⟨u, h1, h2⟩ := Vals.get (i := i) (x := x) t (by simpa using e)
    exact ⟨u, by simpa using h1, h2⟩
theorem Vals.set {x : V} {u : Value} (r : RelV x u) : ∀ {xs : List V} {us : List Value} (i : Nat), Vals xs us → Vals (xs.set i x) (us.set i u)
  | _, _, _, .nil => .nil
  | _, _, 0, .cons _ t => .cons r t
  | _, _, i + 1, .cons q t => .cons q (Vals.set r i t)
theorem Vals.append : ∀ {xs ys : List V} {us ws : List Value}, Vals xs us → Vals ys ws → Vals (xs ++ ys) (us ++ ws)
  | _, _, _, _, .nil, s => s
  | _, _, _, _, .cons r t, s => .cons r (Vals.append t s)
theorem Vals.take : ∀ {xs : List V} {us : List Value} (n : Nat), Vals xs us → Vals (xs.take n) (us.take n)
  | _, _, 0, _ => .nil
  | _, _, _ + 1, .nil => .nil
  | _, _, n + 1, .cons r t => .cons r (Vals.take n t)
theorem Vals.drop : ∀ {xs : List V} {us : List Value} (n : Nat), Vals xs us → Vals (xs.drop n) (us.drop n)
  | _, _, 0, r => r
  | _, _, _ + 1, .nil => .nil
  | _, _, n + 1, .cons _ t => Vals.drop n t

def RelO : Option V → Option Value → Prop
  | some v, some u => RelV v u
  | none, none => True
  | _, _ => False
def KV {κ : Type} : List (κ × V) → List (κ × Value) → Prop := Paired fun (p : κ × V) (q : κ × Value) => p.1 = q.1 ∧ RelV p.2 q.2

/-- a key of a dict (00_mix): an int or a text -/
def kV : Key → V
  | .inl i => .int i
  | .inr x => .str x

/-- what stands at a tracked address -/
inductive HO where
  /-- a list -/
  | lst (xs : List V)
  /-- a tuple (never changes) -/
  | tup (xs : List V)
  /-- a dict whose keys are ints and texts; one whose keys are tuples of ints and texts (the empty one is both) -/
  | dK (kvs : List (Key × V)) | dT (kvs : List (List Key × V))
  /-- a set of ints: its members, its size -/
  | set (S : Int → Bool) (n : Nat)
  /-- an instance of the class at C, its dict at dx, its attributes -/
  | ins (C dx : Addr) (fs : List (Str × V))
  /-- the dict of the instance at x -/
  | own (x : Addr)
  /-- the dict of an exception -/
  | xd (fs : List (Str × V))
  /-- a bound method, f of x -/
  | met (f x : Addr)
  /-- a range object lo, lo + 1, .. below hi -/
  | rng (lo hi : Int)
  /-- a thing that is known to the object (the script; a dict while a loop walks it): read, never written while it is so -/
  | frz (o : Obj) (u : HO)
  /-- a code object's table -/
  | tbl (ps : Array Value)
  /-- any other thing, by what is true of its one object (a def of one's own: SetO a S n := HO.ext fun h => ..) -/
  | ext (φ : Heap → Prop)

abbrev Hp := Addr → Option HO
def upd (H : Hp) (a : Addr) (o : HO) : Hp := fun b => if b = a then some o else H b
theorem upd_same {H : Hp} {a : Addr} {o : HO} : upd H a o a = some o := by unfold upd; rw [if_pos rfl]
theorem upd_ne {H : Hp} {a b : Addr} {o : HO} (h : b ≠ a) : upd H a o b = H b := by unfold upd; rw [if_neg h]
theorem upd_upd {H : Hp} {a : Addr} {o u : HO} : upd (upd H a o) a u = upd H a u := by
  funext b; unfold upd; split <;> rfl
/-- two objects of different content stand apart -/
theorem ne_of {H : Hp} {a b : Addr} {o u : HO} (h : H a = some o) (h' : H b = some u) (d : o ≠ u) : a ≠ b := by
  intro e; subst e; rw [h] at h'; exact d (Option.some.inj h')
theorem ne_of_none {H : Hp} {a b : Addr} {o : HO} (h : H a = some o) (h' : H b = none) : a ≠ b := by
  intro e; subst e; rw [h] at h'; cases h'

section
variable (P : Program) (w : World)
def ObjOk (H : Hp) (h : Heap) (a : Addr) : HO → Prop
  | .lst xs => xs.length ≤ sizeLine ∧ ∃ (its : List Value) (n : Nat), Vals xs its ∧ h.get? a = some { cls := .type "list", data := .seq its.toArray n }
  | .tup xs => xs.length ≤ sizeLine ∧ ∃ its : List Value, Vals xs its ∧ IsTup h a its.toArray
  | .dK kvs => kvs.length ≤ sizeLine ∧ (a == sysModules) = false ∧ ∃ vs, KV kvs vs ∧ h.DictOf (mixKind P w) a vs
  | .dT kvs => kvs.length ≤ sizeLine ∧ (a == sysModules) = false ∧ ∃ xs : List (List Key × Addr × Value),
      Paired (fun (p : List Key × V) (q : List Key × Addr × Value) => p.1 = q.1 ∧ H q.2.1 = some (.tup (p.1.map kV)) ∧ RelV p.2 q.2.2) kvs xs ∧
      ∃ o es ep, h.get? a = some o ∧ o.ExactDict ∧ o.data = .dict es ep ∧ es.toList = xs.map (entryOfKey (tupleKind (mixKind P w))) ∧ (xs.map (·.1)).Nodup
  | .set S n => h.SetOf (intKind P w) a S n
  | .ins C dx fs => H dx = some (.own a) ∧ fs.length ≤ 1000 ∧ dx ≠ a ∧ h.get? a = some (PySem.W.instObj C dx) ∧
      ∃ mA, h.Ns1 dx mA ∧ (∀ f, RelO (fs.lookup f) (mA f)) ∧ PySem.Within mA (fs.map (·.1))
  | .own _ => ∃ o, h.get? a = some o
  | .xd fs => ∃ mA, h.Ns1 a mA ∧ ∀ f, RelO (fs.lookup f) (mA f)
  | .rng lo hi => ∃ t u v, h.get? a = some { cls := .type "range", data := .fields #[.int lo t, .int hi u, .int 1 v] }
  | .frz o u => h.get? a = some o ∧ ObjOk H h a u
  | .tbl ps => h.get? a = some { cls := .none, data := .fields ps }
  | .met f x => h.get? a = some (PySem.W.methodObj (.ref f) (.ref x))
  | .ext φ => φ h ∧ (∃ o, h.get? a = some o) ∧ ∀ h1 h2 : Heap, φ h1 → (∀ o, h1.get? a = some o → h2.get? a = some o) → φ h2
/-- the abstract heap is held -/
def HOk (H : Hp) (h : Heap) : Prop := ∀ a o, H a = some o → ObjOk P w H h a o
end

section
variable {P : Program} {w : World} {H H' : Hp} {h h' : Heap} {a : Addr} {o : HO}
theorem ObjOk.lt (x : ObjOk P w H h a o) : a < h.objs.size := by
  cases o with
  | lst xs => obtain ⟨_, _, _, _, e⟩ := x; exact Heap.lt_size e
  | tup xs => obtain ⟨_, _, _, p⟩ := x; exact p.lt
  | dK kvs => obtain ⟨_, _, _, _, o, _, _, e, _⟩ := x; exact Heap.lt_size e
  | dT kvs => obtain ⟨_, _, _, _, o, _, _, e, _⟩ := x; exact Heap.lt_size e
  | set S n => obtain ⟨o, _, _, _, e, _⟩ := x; exact Heap.lt_size e
  | ins C dx fs => obtain ⟨_, _, _, e, _⟩ := x; exact Heap.lt_size e
  | own y => obtain ⟨_, e⟩ := x; exact Heap.lt_size e
  | xd fs => obtain ⟨_, ⟨_, _, _, e, _⟩, _⟩ := x; exact Heap.lt_size e
  | rng lo hi => obtain ⟨_, _, _, e⟩ := x; exact Heap.lt_size e
  | frz ob u => obtain ⟨e, _⟩ := x; exact Heap.lt_size e
  | tbl ps => exact Heap.lt_size (show h.get? a = some _ from x)
  | met f y => exact Heap.lt_size (show h.get? a = some _ from x)
  | ext φ => obtain ⟨_, ⟨_, e⟩, _⟩ := x; exact Heap.lt_size e
theorem Paired.mapP {α β : Type} {F G : α → β → Prop} : ∀ {l₁ : List α} {l₂ : List β}, Paired F l₁ l₂ → (∀ a b, F a b → G a b) → Paired G l₁ l₂
  | _, _, .nil, _ => .nil
  | _, _, .cons r t, f => .cons (f _ _ r) (Paired.mapP t f)
/-- what an object's description leans on: its own object, its own dict, the tuples -/
theorem ObjOk.stay (x : ObjOk P w H h a o) (k : ∀ b u, (b = a ∨ H b = some (.own a)) → h.get? b = some u → h'.get? b = some u)
    (ho : ∀ b, H b = some (.own a) → H' b = some (.own a)) (ht : ∀ b xs, H b = some (.tup xs) → H' b = some (.tup xs)) : ObjOk P w H' h' a o := by
  induction o with
  | lst xs => obtain ⟨z, its, n, r, e⟩ := x; exact ⟨z, its, n, r, k _ _ (.inl rfl) e⟩
  | tup xs => obtain ⟨z, its, r, ob, e, c⟩ := x; exact ⟨z, its, r, ob, k _ _ (.inl rfl) e, c⟩
  | dK kvs => obtain ⟨z, y, vs, r, ob, es, ep, e, c⟩ := x; exact ⟨z, y, vs, r, ob, es, ep, k _ _ (.inl rfl) e, c⟩
  | dT kvs =>
    obtain ⟨z, y, xs, r, ob, es, ep, e, c⟩ := x
    exact ⟨z, y, xs, Paired.mapP r fun p q z => ⟨z.1, ht _ _ z.2.1, z.2.2⟩, ob, es, ep, k _ _ (.inl rfl) e, c⟩
  | set S n => obtain ⟨ob, es, ep, t, e, c⟩ := x; exact ⟨ob, es, ep, t, k _ _ (.inl rfl) e, c⟩
  | ins C dx fs =>
    obtain ⟨d, z, ne, e, mA, ⟨od, es, ep, e2, c⟩, r⟩ := x
    exact ⟨ho _ d, z, ne, k _ _ (.inl rfl) e, mA, ⟨od, es, ep, k _ _ (.inr d) e2, c⟩, r⟩
  | own y => obtain ⟨ob, e⟩ := x; exact ⟨ob, k _ _ (.inl rfl) e⟩
  | xd fs => obtain ⟨mA, ⟨od, es, ep, e, c⟩, r⟩ := x; exact ⟨mA, ⟨od, es, ep, k _ _ (.inl rfl) e, c⟩, r⟩
  | rng lo hi => obtain ⟨t, u, v, e⟩ := x; exact ⟨t, u, v, k _ _ (.inl rfl) e⟩
  | frz ob u ih => obtain ⟨e, q⟩ := x; exact ⟨k _ _ (.inl rfl) e, ih q⟩
  | tbl ps =>
    have e : h.get? a = some { cls := .none, data := .fields ps } := x
    show h'.get? a = some { cls := .none, data := .fields ps }
    exact k a _ (.inl rfl) e
  | met f y =>
    have e : h.get? a = some (PySem.W.methodObj (.ref f) (.ref y)) := x
    show h'.get? a = some (PySem.W.methodObj (.ref f) (.ref y))
    exact k a _ (.inl rfl) e
  | ext φ => obtain ⟨p, ⟨o, e⟩, st⟩ := x; exact ⟨st _ _ p fun o q => k _ _ (.inl rfl) q, ⟨o, k _ _ (.inl rfl) e⟩, st⟩
theorem HOk.lt (x : HOk P w H h) (e : H a = some o) : a < h.objs.size := (x a o e).lt
theorem HOk.fresh (x : HOk P w H h) (e : h.objs.size ≤ a) : H a = none := by
  cases q : H a with
  | none => rfl
  | some u => exact absurd (Nat.lt_of_lt_of_le (x.lt q) e) (Nat.lt_irrefl _)
/-- every object of the heap is kept -/
theorem HOk.kept (x : HOk P w H h) (k : ∀ b u, h.get? b = some u → h'.get? b = some u) : HOk P w H h' := fun a o e =>
  (x a o e).stay (fun b u _ q => k b u q) (fun _ q => q) fun _ _ q => q
/-- a new object is laid and tracked -/
theorem HOk.laid (x : HOk P w H h) (k : ∀ b u, h.get? b = some u → h'.get? b = some u) (hp : h.objs.size ≤ a) (new : ObjOk P w (upd H a o) h' a o) : HOk P w (upd H a o) h' := fun b u e => by
  have hn := x.fresh hp
  by_cases hb : b = a
  · subst hb; rw [upd_same] at e; cases e; exact new
  · rw [upd_ne hb] at e
    exact (x b u e).stay (fun c v _ q => k c v q) (fun c q => by rw [upd_ne (ne_of_none q hn)]; exact q) fun c xs q => by rw [upd_ne (ne_of_none q hn)]; exact q
end

/-- what may be read as u: it is u, or a known u -/
def Rd (H : Hp) (a : Addr) (u : HO) : Prop := H a = some u ∨ ∃ o, H a = some (.frz o u)
theorem Rd.ok {P : Program} {w : World} {H : Hp} {h : Heap} {a : Addr} {u : HO} (r : Rd H a u) (x : HOk P w H h) : ObjOk P w H h a u := by
  rcases r with r | ⟨o, r⟩
  · exact x a u r
  · obtain ⟨_, q⟩ := x a _ r
    exact q
/-- what may be written -/
def Mut : Option HO → Prop
  | some (.lst _) => True
  | some (.dK _) => True
  | some (.dT _) => True
  | some (.set _ _) => True
  | some (.ins _ _ _) => True
  | some (.ext _) => True
  | _ => False
section
variable {P : Program} {w : World} {H : Hp} {h h' : Heap} {x e : Addr} {o' : HO}
/-- the object at e is changed: x itself, or the dict of the instance x -/
theorem HOk.write (ok : HOk P w H h) (mu : Mut (H x)) (he : e = x ∨ H e = some (.own x)) (k : ∀ b u, b ≠ e → h.get? b = some u → h'.get? b = some u) (heo : ∃ u, h'.get? e = some u)
    (new : ObjOk P w (upd H x o') h' x o') : HOk P w (upd H x o') h' := fun b u q => by
  have nown : ∀ c y, H c = some (.own y) → c ≠ x := fun c y r z => by subst z; rw [r] at mu; exact mu
  have ntup : ∀ c xs, H c = some (.tup xs) → c ≠ x := fun c xs r z => by subst z; rw [r] at mu; exact mu
  by_cases hb : b = x
  · subst hb; rw [upd_same] at q; cases q; exact new
  · rw [upd_ne hb] at q
    by_cases hbe : b = e
    · have q' : H b = some (.own x) := by
        rcases he with z | z
        · exact absurd (hbe.trans z) hb
        · rw [hbe]; exact z
      rw [q] at q'; cases q'
      obtain ⟨v, hv⟩ := heo
      exact ⟨v, by rw [hbe]; exact hv⟩
    · refine (ok b u q).stay (fun c v hc r => k c v ?_ r) (fun c r => by rw [upd_ne (nown c b r)]; exact r) fun c xs r => by rw [upd_ne (ntup c xs r)]; exact r
      rcases hc with rfl | hc
      · exact hbe
      · rintro rfl
        rcases he with z | z
        · exact nown c b hc z
        · rw [hc] at z; cases z; exact hb rfl
end

/-! ### kept unless tracked; of the frames at fs (the callers') the slots may change (an exception that passes writes there); of the records at ex (iterators) nothing is said -/
structure Un (fs ex : List Addr) (H H' : Hp) (h h' : Heap) : Prop where
  keep : ∀ b o, h.get? b = some o → H b = none → b ∉ fs → b ∉ ex → h'.get? b = some o
  slot : ∀ b o, h.get? b = some o → H b = none → b ∈ fs → b ∉ ex → ∃ sl, h'.get? b = some { o with slots := sl }
  free : ∀ b o, h.get? b = some o → H b = none → b ∉ ex → H' b = none
  there : ∀ b o, h.get? b = some o → b ∉ ex → ∃ o', h'.get? b = some o'
  tups : ∀ b xs, H b = some (.tup xs) → H' b = some (.tup xs)
  frzs : ∀ b o u, H b = some (.frz o u) → H' b = some (.frz o u)
  tbls : ∀ b ps, H b = some (.tbl ps) → ∃ more, H' b = some (.tbl (ps ++ more))
section
variable {fs fs' ex ex' : List Addr} {H H1 H2 : Hp} {h h1 h2 h' : Heap} {a x e : Addr} {o : HO}
theorem Un.any (u : Un fs ex H H1 h h1) {b : Addr} {ob : Obj} (q : h.get? b = some ob) (n : H b = none) (hx : b ∉ ex) : ∃ sl, h1.get? b = some { ob with slots := sl } := by
  by_cases hb : b ∈ fs
  · exact u.slot b ob q n hb hx
  · exact ⟨ob.slots, u.keep b ob q n hb hx⟩
theorem Un.kept (k : ∀ b u, h.get? b = some u → h'.get? b = some u) : Un fs ex H H h h' :=
  ⟨fun b ob q _ _ _ => k b ob q, fun b ob q _ _ _ => ⟨ob.slots, k b ob q⟩, fun _ _ _ n _ => n, fun b ob q _ => ⟨ob, k b ob q⟩, fun _ _ q => q, fun _ _ _ q => q, fun _ ps q => ⟨#[], by rw [q]; simp⟩⟩
theorem Un.refl : Un fs ex H H h h := Un.kept fun _ _ q => q
theorem Un.laid (k : ∀ b u, h.get? b = some u → h'.get? b = some u) (hp : h.objs.size ≤ a) (hn : H a = none) : Un fs ex H (upd H a o) h h' where
  keep := fun b u q _ _ _ => k b u q
  slot := fun b u q _ _ _ => ⟨u.slots, k b u q⟩
  free := fun b u q n _ => by rw [upd_ne (Nat.ne_of_lt (Nat.lt_of_lt_of_le (Heap.lt_size q) hp))]; exact n
  there := fun b u q _ => ⟨u, k b u q⟩
  tups := fun b xs q => by rw [upd_ne (ne_of_none q hn)]; exact q
  frzs := fun b u xs q => by rw [upd_ne (ne_of_none q hn)]; exact q
  tbls := fun b ps q => ⟨#[], by rw [upd_ne (ne_of_none q hn), q]; simp⟩
theorem Un.write (mu : Mut (H x)) (he : e = x ∨ H e = some (.own x)) (k : ∀ b u, b ≠ e → h.get? b = some u → h'.get? b = some u) (heo : ∃ u, h'.get? e = some u) : Un fs ex H (upd H x o) h h' := by
  have hx : ∀ b, H b = none → b ≠ x := fun b n z => by subst z; rw [n] at mu; exact mu
  have hb : ∀ b, H b = none → b ≠ e := fun b n z => by
    subst z
    rcases he with r | r
    · exact hx b n r
    · rw [n] at r; cases r
  have hm : ∀ b u, H b = some u → ¬ Mut (some u) → b ≠ x := fun b u q nm z => by subst z; rw [q] at mu; exact nm mu
  refine ⟨fun b u q n _ _ => k b u (hb b n) q, fun b u q n _ _ => ⟨u.slots, k b u (hb b n) q⟩, fun b u q n _ => by rw [upd_ne (hx b n)]; exact n, fun b u q _ => ?_,
    fun b xs q => by rw [upd_ne (hm b _ q fun z => z)]; exact q, fun b u xs q => by rw [upd_ne (hm b _ q fun z => z)]; exact q, fun b ps q => ⟨#[], by rw [upd_ne (hm b _ q fun z => z), q]; simp⟩⟩
  by_cases hbe : b = e
  · subst hbe; exact heo
  · exact ⟨u, k b u hbe q⟩
end

/-! ### the heap without what is tracked -/
def trk (h : Heap) (H : Hp) : List Addr := (List.range h.objs.size).filter fun a => (H a).isSome
def hidT (h : Heap) (H : Hp) : Heap := PySem.W.hideAll h (trk h H)
theorem hidT_size (h : Heap) (H : Hp) : (hidT h H).objs.size = h.objs.size := PySem.W.hideAll_size _ _
theorem hidT_get {h : Heap} {H : Hp} {b : Addr} {o : Obj} (e : h.get? b = some o) (n : H b = none) : (hidT h H).get? b = some o :=
  PySem.W.hideAll_get _ e fun hm => by
    have q : (H b).isSome = true := (List.mem_filter.mp hm).2
    rw [n] at q; simp at q
theorem of_hidT {h : Heap} {H : Hp} {b : Addr} {o : Obj} (e : (hidT h H).get? b = some o) : h.get? b = some o ∧ H b = none := by
  have e' : h.get? b = some o := PySem.W.of_hideAll (trk h H) e
  refine ⟨e', ?_⟩
  cases q : H b with
  | none => rfl
  | some x =>
    have hm : b ∈ trk h H := List.mem_filter.mpr ⟨List.mem_range.mpr (Heap.lt_size e'), by simp [q]⟩
    have z : (hidT h H).get? b = none := PySem.W.hideAll_none (trk h H) hm
    rw [z] at e; cases e

/-! ### OpenK's ledger, filled with every new object but one -/
end L2

namespace L2
open PySem PySem.Spec PyProof.Rows

/-- the module's facts, over the base: the heap at the law's entry without what is tracked there -/
structure Mod (K : PySem.W.Frag) (mg : Str → Option Value) (base : Heap) : Prop where
  kin : K.In base
  glob : base.Ns mainGlobals mg
  blt : ∃ mb, base.Ns builtinsNs mb ∧ ∀ x : Str, x ≠ "__name__" → mb x = bootBuiltins x
  nolimit : base.NoLimit

/-- the context: a def's body (or a comprehension's block) running. base: fixed through the whole law; s₀, H₀: the entry; outer: the frames whose slots others may change (a def's callers); stack: all frames that run;
   ex: iterators that were made ahead of the entry and are walked here (a comprehension's); fn: the names whose cells were made at the entry (a def: all; a comprehension's block: its own); calm: not within an except suite; pn: pins that every state bears; xe: what is wanted of an exception that leaves the code -/
structure Cx where
  prog : Program
  w : World
  K : PySem.W.Frag
  mg : Str → Option Value
  base : Heap
  A : Around
  N : List Str
  s_0 : Shared
  H_0 : Hp
  env : Env
  outer : List Env
  stack : List Env
  ex : List Addr
  fn : Str → Bool
  calm : Bool
  pn : List (Addr × Obj)
  xe : Value → Shared → Prop
/-- the callers' frames -/
def frs (l : List Env) : List Addr := l.filterMap (·.frame)
abbrev Cx.fs (X : Cx) : List Addr := frs X.outer

def Vis (sc : Scope) (x : Str) : Prop := sc.names.lookup x = some .local ∨ sc.names.lookup x = some .cell ∨ sc.names.lookup x = some .free
def Loc (sc : Scope) (x : Str) : Prop := sc.names.lookup x = some .local ∨ sc.names.lookup x = some .cell
def Look (env : Env) (h : Heap) (m : Str → Option Value) (x : Str) (u : Value) : Prop :=
  (env.kindOf x = some .local ∧ m x = some u) ∨ ((env.kindOf x = some .cell ∨ env.kindOf x = some .free) ∧ ∃ c, env.cells.lookup x = some c ∧ h.IsCell c (some u))

structure Cx.Ok (X : Cx) : Prop where
  mod : Mod X.K X.mg X.base
  kind : X.env.scope.kind = .function
  glob : X.env.globals = mainGlobals
  blt : X.env.builtins = builtinsNs
  above : X.s_0.heap.objs.size ≤ X.env.locals
  inj : ∀ x y c, X.env.cells.lookup x = some c → X.env.cells.lookup y = some c → x = y
  has : ∀ x, (X.env.kindOf x = some .cell ∨ X.env.kindOf x = some .free) → ∃ c, X.env.cells.lookup x = some c
  cab : ∀ x c, X.fn x = true → X.env.cells.lookup x = some c → X.s_0.heap.objs.size ≤ c
  hd : X.calm = true → X.A.handled = none
  frames : X.A.frames = some X.stack
  stk : X.stack = X.outer ∨ (X.stack = X.env :: X.outer ∧ X.env.frame = some X.env.locals)
  exf : ∀ b ∈ X.ex, b ≠ X.env.locals ∧ ∀ x c, X.env.cells.lookup x = some c → c ≠ b
  bs : ∀ b o, X.base.get? b = some o → X.s_0.heap.get? b = some o ∧ X.H_0 b = none
  bsz : X.base.objs.size ≤ X.s_0.heap.objs.size
  noex : ∀ b o, X.base.get? b = some o → b ∉ X.ex
  exfs : ∀ b ∈ X.ex, b ∉ X.fs
  funs : X.s_0.heap.FunFrames X.base X.outer
  frf : ∀ b ∈ X.fs, X.H_0 b = none

structure Inv (X : Cx) (pins : List (Addr × Obj)) (σ : List (Option V)) (H : Hp) (s : Shared) : Prop where
  ok : X.Ok
  os : s.os = X.s_0.os
  bare : AllBare s.gens
  base : Un X.fs X.ex X.H_0 H X.s_0.heap s.heap
  loc : ∃ m, s.heap.Ns X.env.locals m ∧ ∀ (i : Nat) (x : Str) (v : V), X.N[i]? = some x → σ[i]? = some (some v) → Vis X.env.scope x → ∃ u, RelV v u ∧ Look X.env s.heap m x u
  cell : ∀ x c, X.env.cells.lookup x = some c → ∃ v, s.heap.IsCell c v
  free : H X.env.locals = none
  freeC : ∀ x c, X.env.cells.lookup x = some c → H c = none
  pin : ∀ p ∈ X.pn ++ pins, s.heap.get? p.1 = some p.2 ∧ H p.1 = none ∧ p.1 ≠ X.env.locals ∧ p.1 ∉ X.fs ∧ ∀ v, p.2.data ≠ .cell v
  hok : HOk X.prog X.w H s.heap
  len : σ.length = X.N.length

section
variable {X : Cx} {pins : List (Addr × Obj)} {σ : List (Option V)} {H H' : Hp} {s : Shared} {h' : Heap}

theorem Cx.Ok.nofr (ok : X.Ok) {b : Addr} {o : Obj} (e : X.base.get? b = some o) : b ∉ X.fs := fun hb => by
  have := (ok.funs.mem hb).1
  rw [e] at this; cases this
theorem Inv.bs (I : Inv X pins σ H s) : ∀ b o, X.base.get? b = some o → s.heap.get? b = some o ∧ H b = none := fun b o e =>
  ⟨I.base.keep b o (I.ok.bs b o e).1 (I.ok.bs b o e).2 (I.ok.nofr e) (I.ok.noex b o e), I.base.free b o (I.ok.bs b o e).1 (I.ok.bs b o e).2 (I.ok.noex b o e)⟩
theorem Inv.bk (I : Inv X pins σ H s) : ∀ b o, X.base.get? b = some o → s.heap.get? b = some o := fun b o e => (I.bs b o e).1
theorem Inv.mod (I : Inv X pins σ H s) : Mod X.K X.mg X.base := I.ok.mod
theorem Inv.kIn (I : Inv X pins σ H s) : X.K.In s.heap := I.ok.mod.kin.keeps I.bk
theorem Inv.lt (I : Inv X pins σ H s) : X.env.locals < s.heap.objs.size := let ⟨_, hn, _⟩ := I.loc; hn.lt
theorem Inv.sz (I : Inv X pins σ H s) : X.s_0.heap.objs.size ≤ s.heap.objs.size := Nat.le_trans I.ok.above (Nat.le_of_lt I.lt)
theorem Inv.nofs (I : Inv X pins σ H s) {a : Addr} (h : s.heap.objs.size ≤ a) : a ∉ X.fs := fun hb => by
  obtain ⟨_, o, ho, _⟩ := I.ok.funs.mem hb
  exact absurd (Nat.lt_of_lt_of_le (Heap.lt_size ho) (Nat.le_trans I.sz h)) (Nat.lt_irrefl _)
theorem Inv.cne (I : Inv X pins σ H s) : ∀ x c, X.env.cells.lookup x = some c → c ≠ X.env.locals := fun x c e z => by
  obtain ⟨v, o, ho, hd⟩ := I.cell x c e
  obtain ⟨m, ⟨o', es, ep, ho', hd', _⟩, _⟩ := I.loc
  rw [z, ho'] at ho; cases ho; rw [hd'] at hd; cases hd
theorem Inv.funs (I : Inv X pins σ H s) : s.heap.FunFrames X.base X.outer := by
  have all : ∀ (l : List Env), (∀ b ∈ frs l, b ∈ X.fs) → X.s_0.heap.FunFrames X.base l → s.heap.FunFrames X.base l := by
    intro l
    induction l with
    | nil => intro _ _; trivial
    | cons env r ih =>
      intro hs hl
      obtain ⟨hk, ⟨L, o, hf, hn, ho, hd⟩, hr⟩ := hl
      have hL : L ∈ X.fs := hs L (by unfold frs; rw [List.filterMap_cons, hf]; exact List.mem_cons_self)
      obtain ⟨sl, e⟩ := I.base.slot L o ho (I.ok.frf L hL) hL fun z => I.ok.exfs L z hL
      exact ⟨hk, ⟨L, _, hf, hn, e, hd⟩, ih (fun b hb => hs b (by unfold frs; rw [List.filterMap_cons, hf]; exact List.mem_cons_of_mem _ hb)) hr⟩
  exact all X.outer (fun _ hb => hb) I.ok.funs

/-- the frames that run, for a call -/
theorem Inv.stack (I : Inv X pins σ H s) : s.heap.FunFrames X.base X.stack := by
  rcases I.ok.stk with e | ⟨e, hf⟩
  · rw [e]; exact I.funs
  · rw [e]
    obtain ⟨m, hn, _⟩ := I.loc
    refine .cons (by rw [I.ok.kind]; decide) hf hn ?_ I.funs
    exact Heap.get?_none_of_le (Nat.le_trans I.ok.bsz I.ok.above)
theorem Inv.stkSub (I : Inv X pins σ H s) : ∀ b ∈ frs X.stack, b ∈ X.env.locals :: X.fs := fun b hb => by
  rcases I.ok.stk with e | ⟨e, hf⟩
  · rw [e] at hb; exact List.mem_cons_of_mem _ hb
  · rw [e] at hb
    unfold frs at hb
    rw [List.filterMap_cons, hf] at hb
    exact hb
theorem Inv.stkFree (I : Inv X pins σ H s) : ∀ b ∈ frs X.stack, H b = none := fun b hb => by
  rcases List.mem_cons.mp (I.stkSub b hb) with e | hb
  · rw [e]; exact I.free
  · obtain ⟨_, o, ho, _⟩ := I.ok.funs.mem hb
    exact I.base.free b o ho (I.ok.frf b hb) fun z => I.ok.exfs b z hb

/-- THE STEP: the untracked objects but the frame and the records at ch are kept (the callers' frames up to slots), the frame's map is kept, the new abstract heap is held -/
theorem Inv.step {g' : Array GenState} {t' : Nat} {d' : Drawn} {ch : List Addr} (I : Inv X pins σ H s)
    (hch : ∀ b ∈ ch, (b ∈ X.ex ∨ X.s_0.heap.objs.size ≤ b) ∧ b ≠ X.env.locals ∧ (∀ x c, X.env.cells.lookup x = some c → c ≠ b) ∧ ∀ p ∈ X.pn ++ pins, p.1 ≠ b)
    (keep : ∀ b o, b ≠ X.env.locals → b ∉ X.fs → b ∉ ch → s.heap.get? b = some o → H b = none → h'.get? b = some o)
    (slot : ∀ b o, b ≠ X.env.locals → b ∈ X.fs → b ∉ ch → s.heap.get? b = some o → H b = none → ∃ sl, h'.get? b = some { o with slots := sl }) (free : ∀ b o, b ∉ ch → s.heap.get? b = some o → H b = none → H' b = none)
    (there : ∀ b o, b ∉ ch → s.heap.get? b = some o → ∃ o', h'.get? b = some o')
    (tups : ∀ b xs, H b = some (.tup xs) → H' b = some (.tup xs)) (frzs : ∀ b o u, H b = some (.frz o u) → H' b = some (.frz o u)) (tbls : ∀ b ps, H b = some (.tbl ps) → ∃ more, H' b = some (.tbl (ps ++ more)))
    (ns : ∀ m, s.heap.Ns X.env.locals m → h'.Ns X.env.locals m) (hok : HOk X.prog X.w H' h') (hg : AllBare g') :
    Inv X pins σ H' { s with heap := h', gens := g', drawn := d', toks := t' } := by
  have neL : ∀ b o, X.s_0.heap.get? b = some o → b ≠ X.env.locals := fun b o e => Nat.ne_of_lt (Nat.lt_of_lt_of_le (Heap.lt_size e) I.ok.above)
  have neC : ∀ b o, X.s_0.heap.get? b = some o → b ∉ X.ex → b ∉ ch := fun b o e hx hb => by
    rcases (hch b hb).1 with z | z
    · exact hx z
    · exact absurd (Nat.lt_of_lt_of_le (Heap.lt_size e) z) (Nat.lt_irrefl _)
  have cellK : ∀ x c, X.env.cells.lookup x = some c → ∀ v, s.heap.IsCell c v → h'.IsCell c v := fun x c e v ⟨o, ho, hd⟩ => by
    have nch : c ∉ ch := fun z => (hch c z).2.2.1 x c e rfl
    by_cases hc : c ∈ X.fs
    · obtain ⟨sl, q⟩ := slot c o (I.cne x c e) hc nch ho (I.freeC x c e)
      exact ⟨_, q, hd⟩
    · exact ⟨o, keep c o (I.cne x c e) hc nch ho (I.freeC x c e), hd⟩
  refine ⟨I.ok, I.os, hg, ⟨fun b o e n hb hx => ?_, fun b o e n hb hx => ?_, fun b o e n hx => ?_, fun b o e hx => ?_, fun b xs e => tups b xs (I.base.tups b xs e), fun b o xs e => frzs b o xs (I.base.frzs b o xs e), fun b ps e => ?_⟩, ?_, fun x c e => ?_, ?_, fun x c e => ?_, fun p hp => ?_, hok, I.len⟩
  · exact keep b o (neL b o e) hb (neC b o e hx) (I.base.keep b o e n hb hx) (I.base.free b o e n hx)
  · obtain ⟨sl, e1⟩ := I.base.slot b o e n hb hx
    obtain ⟨sl', e2⟩ := slot b _ (neL b o e) hb (neC b o e hx) e1 (I.base.free b o e n hx)
    exact ⟨sl', e2⟩
  · obtain ⟨o', e1⟩ := I.base.there b o e hx
    exact free b o' (neC b o e hx) e1 (I.base.free b o e n hx)
  · obtain ⟨o', e1⟩ := I.base.there b o e hx
    exact there b o' (neC b o e hx) e1
  · obtain ⟨m1, e1⟩ := I.base.tbls b ps e
    obtain ⟨m2, e2⟩ := tbls b _ e1
    exact ⟨m1 ++ m2, by rw [e2, Array.append_assoc]⟩
  · obtain ⟨m, hn, hl⟩ := I.loc
    refine ⟨m, ns m hn, fun i x v e1 e2 e3 => ?_⟩
    obtain ⟨u, r, l⟩ := hl i x v e1 e2 e3
    refine ⟨u, r, ?_⟩
    rcases l with l | ⟨k, c, e, z⟩
    · exact .inl l
    · exact .inr ⟨k, c, e, cellK x c e _ z⟩
  · obtain ⟨v, z⟩ := I.cell x c e
    exact ⟨v, cellK x c e v z⟩
  · obtain ⟨m, ⟨o, _, _, ho, _⟩, _⟩ := I.loc
    exact free _ o (fun z => (hch _ z).2.1 rfl) ho I.free
  · obtain ⟨v, o, ho, hd⟩ := I.cell x c e
    exact free c o (fun z => (hch c z).2.2.1 x c e rfl) ho (I.freeC x c e)
  · obtain ⟨e, n, ne, nf, d⟩ := I.pin p hp
    have nch : p.1 ∉ ch := fun z => (hch p.1 z).2.2.2 p hp rfl
    exact ⟨keep p.1 p.2 ne nf nch e n, free p.1 p.2 nch e n, ne, nf, d⟩
/-- .. where the frame's own object is kept too -/
theorem Inv.un {t' : Nat} (I : Inv X pins σ H s) (u : Un X.fs [] H H' s.heap h') (hok : HOk X.prog X.w H' h') : Inv X pins σ H' { s with heap := h', toks := t' } := by
  obtain ⟨m, ⟨o, es, ep, ho, r⟩, _⟩ := id I.loc
  obtain ⟨sl, hL⟩ := u.any ho I.free (by simp)
  exact I.step (g' := s.gens) (d' := s.drawn) (ch := []) (fun _ z => nomatch z) (fun b o _ hb _ e n => u.keep b o e n hb (by simp)) (fun b o _ hb _ e n => u.slot b o e n hb (by simp)) (fun b o _ e n => u.free b o e n (by simp)) (fun b o _ e => u.there b o e (by simp)) u.tups u.frzs u.tbls (fun m' hm => by
    obtain ⟨o', es', ep', ho', r'⟩ := hm
    rw [ho] at ho'; cases ho'
    exact ⟨_, es', ep', hL, r'⟩) hok I.bare
/-- behind a call (or a comprehension's block): the slots of this frame may have changed too, the records at ch may have turned -/
theorem Inv.call {g' : Array GenState} {t' : Nat} {d' : Drawn} {ch : List Addr} (I : Inv X pins σ H s) (u : Un (frs X.stack) ch H H' s.heap h') (hok : HOk X.prog X.w H' h') (hg : AllBare g')
    (hch : ∀ b ∈ ch, (b ∈ X.ex ∨ X.s_0.heap.objs.size ≤ b) ∧ b ≠ X.env.locals ∧ (∀ x c, X.env.cells.lookup x = some c → c ≠ b) ∧ ∀ p ∈ X.pn ++ pins, p.1 ≠ b) :
    Inv X pins σ H' { s with heap := h', gens := g', drawn := d', toks := t' } := by
  obtain ⟨m, ⟨o, es, ep, ho, r⟩, _⟩ := id I.loc
  obtain ⟨sl, hL⟩ := u.any ho I.free fun z => (hch _ z).2.1 rfl
  exact I.step (ch := ch) hch (fun b o hL hb hc e n => u.keep b o e n (fun z => (List.mem_cons.mp (I.stkSub b z)).elim hL hb) hc) (fun b o _ _ hc e n => u.any e n hc) (fun b o hc e n => u.free b o e n hc) (fun b o hc e => u.there b o e hc) u.tups u.frzs u.tbls (fun m' hm => by
    obtain ⟨o', es', ep', ho', r'⟩ := hm
    rw [ho] at ho'; cases ho'
    exact ⟨_, es', ep', hL, r'⟩) hok hg
/-- an untracked record of ours (an iterator) has turned -/
theorem Inv.turned {t' : Nat} {it : Addr} (I : Inv X pins σ H s) (k : ∀ b o, b ≠ it → s.heap.get? b = some o → h'.get? b = some o) (hn : H it = none) (hL : it ≠ X.env.locals)
    (h1 : it ∈ X.ex ∨ X.s_0.heap.objs.size ≤ it) (h2 : ∀ x c, X.env.cells.lookup x = some c → c ≠ it) (h3 : ∀ p ∈ X.pn ++ pins, p.1 ≠ it) : Inv X pins σ H { s with heap := h', toks := t' } := by
  have nit : ∀ b u, H b = some u → b ≠ it := fun b u e z => by rw [z, hn] at e; cases e
  refine I.step (g' := s.gens) (d' := s.drawn) (ch := [it]) (fun b hb => ?_) (fun b o _ _ hc e _ => k b o (fun z => hc (by simp [z])) e) (fun b o _ _ hc e _ => ⟨o.slots, k b o (fun z => hc (by simp [z])) e⟩) (fun _ _ _ _ n => n)
    (fun b o hc e => ⟨o, k b o (fun z => hc (by simp [z])) e⟩) (fun _ _ e => e) (fun _ _ _ e => e) (fun b ps e => ⟨#[], by rw [e]; simp⟩) (fun m hm => ?_) (fun b u e => ?_) I.bare
  · have e : b = it := by simpa using hb
    subst e
    exact ⟨h1, hL, h2, h3⟩
  · obtain ⟨o, es, ep, ho, r⟩ := hm
    exact ⟨o, es, ep, k _ o (Ne.symm hL) ho, r⟩
  · refine (I.hok b u e).stay (fun c v hc q => k c v ?_ q) (fun _ q => q) fun _ _ q => q
    rcases hc with z | z
    · rw [z]; exact nit b u e
    · exact nit c _ z
theorem Inv.tok (I : Inv X pins σ H s) (t : Nat) : Inv X pins σ H { s with toks := t } := I.un (h' := s.heap) (t' := t) Un.refl I.hok
/-- all objects kept -/
theorem Inv.kept {t' : Nat} (I : Inv X pins σ H s) (k : ∀ b u, s.heap.get? b = some u → h'.get? b = some u) : Inv X pins σ H { s with heap := h', toks := t' } := I.un (Un.kept k) (I.hok.kept k)
/-- a new object laid and tracked -/
theorem Inv.laid {a : Addr} {o : HO} {t' : Nat} (I : Inv X pins σ H s) (k : ∀ b u, s.heap.get? b = some u → h'.get? b = some u) (hp : s.heap.objs.size ≤ a) (new : ObjOk X.prog X.w (upd H a o) h' a o) :
    Inv X pins σ (upd H a o) { s with heap := h', toks := t' } := I.un (Un.laid k hp (I.hok.fresh hp)) (I.hok.laid k hp new)
/-- an object written -/
theorem Inv.write {x e : Addr} {o : HO} {t' : Nat} (I : Inv X pins σ H s) (mu : Mut (H x)) (he : e = x ∨ H e = some (.own x)) (k : ∀ b u, b ≠ e → s.heap.get? b = some u → h'.get? b = some u) (heo : ∃ u, h'.get? e = some u)
    (new : ObjOk X.prog X.w (upd H x o) h' x o) : Inv X pins σ (upd H x o) { s with heap := h', toks := t' } := I.un (Un.write mu he k heo) (I.hok.write mu he k heo new)
/-- forgetting slots, pins -/
theorem Inv.weak {σ' : List (Option V)} (I : Inv X pins σ H s) (hl : σ'.length = σ.length) (w : ∀ (i : Nat) v, σ'[i]? = some (some v) → σ[i]? = some (some v)) : Inv X pins σ' H s :=
  ⟨I.ok, I.os, I.bare, I.base, let ⟨m, hn, hl'⟩ := I.loc; ⟨m, hn, fun i x v e1 e2 e3 => hl' i x v e1 (w i v e2) e3⟩, I.cell, I.free, I.freeC, I.pin, I.hok, hl.trans I.len⟩
theorem Inv.pins_of {pins' : List (Addr × Obj)} (I : Inv X pins σ H s) (h : ∀ p ∈ pins', s.heap.get? p.1 = some p.2 ∧ H p.1 = none ∧ p.1 ≠ X.env.locals ∧ p.1 ∉ X.fs ∧ ∀ v, p.2.data ≠ .cell v) : Inv X pins' σ H s :=
  ⟨I.ok, I.os, I.bare, I.base, I.loc, I.cell, I.free, I.freeC, fun p hp => (List.mem_append.mp hp).elim (fun z => I.pin p (List.mem_append_left _ z)) (h p), I.hok, I.len⟩

theorem nodup_ix {N : List Str} (hN : N.Nodup) {i j : Nat} {x : Str} (a : N[i]? = some x) (b : N[j]? = some x) : i = j := by
  obtain ⟨h1, e1⟩ := List.getElem?_eq_some_iff.mp a
  obtain ⟨h2, e2⟩ := List.getElem?_eq_some_iff.mp b
  exact (List.getElem_inj hN).mp (e1.trans e2.symm)

/-- a name is stored; what changed -/
theorem store_ok2 {M : Model} {A : Around} {E : Value → Shared → Prop} {i : Nat} {x : Str} {v : V} {u : Value} {Q : Unit → Shared → Prop} (I : Inv X pins σ H s) (hN : X.N.Nodup) (hi : X.N[i]? = some x) (hx : Loc X.env.scope x) (r : RelV v u)
    (h : ∀ s', Inv X pins (σ.set i (some v)) H s' → (∃ a, Heap.SameBut a s.heap s'.heap ∧ (a = X.env.locals ∨ X.env.cells.lookup x = some a)) → Q () s') (hf : X.fn x = true ∨ X.env.scope.names.lookup x = some .local := by first | exact .inl rfl | exact .inr rfl | assumption) : wpAny M A (storeName X.env x u) Q E s := by
  obtain ⟨m, hn, hl⟩ := id I.loc
  have hcls : (X.env.scope.kind == .class || (X.env.scope.kind == .module && X.env.locals != X.env.globals)) = false := by rw [I.ok.kind]; rfl
  have hiσ : i < σ.length := by rw [I.len]; exact (List.getElem?_eq_some_iff.mp hi).1
  have cne := I.cne
  have tracked : ∀ {a : Addr} {h' : Heap}, (∃ o, s.heap.get? a = some o ∧ H a = none) → Heap.SameBut a s.heap h' → HOk X.prog X.w H h' := fun {a h'} ha hs b ob e => by
    obtain ⟨_, _, hfree⟩ := ha
    refine (I.hok b ob e).stay (fun c w' hc q => (hs.2 c ?_).trans q) (fun _ q => q) fun _ _ q => q
    rintro rfl
    rcases hc with rfl | hc
    · rw [hfree] at e; cases e
    · rw [hfree] at hc; cases hc
  rcases hx with hk | hk
  · refine wpAny_storeName_local hk hn (fun h' hn' hs => ?_) hcls
    obtain ⟨oL, _, _, hoL, _⟩ := id hn
    refine h _ ⟨I.ok, I.os, I.bare, ⟨fun b o e n hb hx => ?_, fun b o e n hb hx => ?_, I.base.free, fun b o e hx => ?_, I.base.tups, I.base.frzs, I.base.tbls⟩, ⟨_, hn', fun j y v' e1 e2 e3 => ?_⟩, fun y c e => ?_, I.free, I.freeC, fun p hp => ?_, tracked ⟨oL, hoL, I.free⟩ hs, by simpa using I.len⟩ ⟨_, hs, .inl rfl⟩
    · exact (hs.2 b (Nat.ne_of_lt (Nat.lt_of_lt_of_le (Heap.lt_size e) I.ok.above))).trans (I.base.keep b o e n hb hx)
    · obtain ⟨sl, e1⟩ := I.base.slot b o e n hb hx
      exact ⟨sl, (hs.2 b (Nat.ne_of_lt (Nat.lt_of_lt_of_le (Heap.lt_size e) I.ok.above))).trans e1⟩
    · obtain ⟨o', e1⟩ := I.base.there b o e hx
      exact ⟨o', (hs.2 b (Nat.ne_of_lt (Nat.lt_of_lt_of_le (Heap.lt_size e) I.ok.above))).trans e1⟩
    · by_cases hj : j = i
      · subst hj
        rw [hi] at e1; cases e1
        rw [List.getElem?_set_self hiσ] at e2
        cases e2
        exact ⟨u, r, .inl ⟨hk, by simp⟩⟩
      · rw [List.getElem?_set_ne (Ne.symm hj)] at e2
        obtain ⟨u', r', q⟩ := hl j y v' e1 e2 e3
        refine ⟨u', r', ?_⟩
        rcases q with ⟨k, e⟩ | ⟨k, c, e, z⟩
        · refine .inl ⟨k, ?_⟩
          have : y ≠ x := fun e => hj (nodup_ix hN e1 (e ▸ hi))
          simp [this, e]
        · exact .inr ⟨k, c, e, z.sameBut hs (cne y c e)⟩
    · obtain ⟨w', z⟩ := I.cell y c e
      exact ⟨w', z.sameBut hs (cne y c e)⟩
    · obtain ⟨e, n, ne, nf, d⟩ := I.pin p hp
      exact ⟨(hs.2 p.1 ne).trans e, n, ne, nf, d⟩
  · have hfn : X.fn x = true := by
      rcases hf with z | z
      · exact z
      · rw [z] at hk; cases hk
    obtain ⟨c, hc⟩ := I.ok.has x (.inl hk)
    obtain ⟨w', z⟩ := I.cell x c hc
    refine wpAny_storeName_cell I.ok.kind hk hc z (fun h' hc' hs => ?_)
    obtain ⟨oc, hoc, hocd⟩ := id z
    refine h { s with heap := h' } ⟨I.ok, I.os, I.bare, ⟨fun b o e n hb hx => ?_, fun b o e n hb hx => ?_, I.base.free, fun b o e hx => ?_, I.base.tups, I.base.frzs, I.base.tbls⟩, ⟨m, hn.sameBut hs (Ne.symm (cne x c hc)), fun j y v' e1 e2 e3 => ?_⟩, fun y c' e => ?_, I.free, I.freeC, fun p hp => ?_, tracked ⟨oc, hoc, I.freeC x c hc⟩ hs, by simpa using I.len⟩ ⟨c, hs, .inr hc⟩
    · exact (hs.2 b (Nat.ne_of_lt (Nat.lt_of_lt_of_le (Heap.lt_size e) (I.ok.cab x c hfn hc)))).trans (I.base.keep b o e n hb hx)
    · obtain ⟨sl, e1⟩ := I.base.slot b o e n hb hx
      exact ⟨sl, (hs.2 b (Nat.ne_of_lt (Nat.lt_of_lt_of_le (Heap.lt_size e) (I.ok.cab x c hfn hc)))).trans e1⟩
    · obtain ⟨o', e1⟩ := I.base.there b o e hx
      exact ⟨o', (hs.2 b (Nat.ne_of_lt (Nat.lt_of_lt_of_le (Heap.lt_size e) (I.ok.cab x c hfn hc)))).trans e1⟩
    · by_cases hj : j = i
      · subst hj
        rw [hi] at e1; cases e1
        rw [List.getElem?_set_self hiσ] at e2
        cases e2
        exact ⟨u, r, .inr ⟨.inl hk, c, hc, hc'⟩⟩
      · rw [List.getElem?_set_ne (Ne.symm hj)] at e2
        obtain ⟨u', r', q⟩ := hl j y v' e1 e2 e3
        refine ⟨u', r', ?_⟩
        rcases q with q | ⟨k, c', e, z'⟩
        · exact .inl q
        · refine .inr ⟨k, c', e, z'.sameBut hs ?_⟩
          rintro rfl
          exact hj (nodup_ix hN e1 (I.ok.inj _ _ _ e hc ▸ hi))
    · by_cases hcc : c' = c
      · subst hcc; exact ⟨_, hc'⟩
      · obtain ⟨w2, z2⟩ := I.cell y c' e
        exact ⟨w2, z2.sameBut hs hcc⟩
    · obtain ⟨e, n, ne, nf, d⟩ := I.pin p hp
      refine ⟨(hs.2 p.1 ?_).trans e, n, ne, nf, d⟩
      intro q
      rw [q, hoc] at e
      have q' : oc = p.2 := Option.some.inj e
      exact d w' (by rw [← q']; exact hocd)
theorem store_ok {M : Model} {A : Around} {E : Value → Shared → Prop} {i : Nat} {x : Str} {v : V} {u : Value} {Q : Unit → Shared → Prop} (I : Inv X pins σ H s) (hN : X.N.Nodup) (hi : X.N[i]? = some x) (hx : Loc X.env.scope x) (r : RelV v u)
    (h : ∀ s', Inv X pins (σ.set i (some v)) H s' → Q () s') (hf : X.fn x = true ∨ X.env.scope.names.lookup x = some .local := by first | exact .inl rfl | exact .inr rfl | assumption) : wpAny M A (storeName X.env x u) Q E s :=
  store_ok2 I hN hi hx r (fun s' I' _ => h s' I') hf
/-- behind a call or a block, the state as it is -/
theorem Inv.call' {s' : Shared} {ch : List Addr} (I : Inv X pins σ H s) (ho : s'.os = s.os) (u : Un (frs X.stack) ch H H' s.heap s'.heap) (hok : HOk X.prog X.w H' s'.heap) (hg : AllBare s'.gens)
    (hch : ∀ b ∈ ch, (b ∈ X.ex ∨ X.s_0.heap.objs.size ≤ b) ∧ b ≠ X.env.locals ∧ (∀ x c, X.env.cells.lookup x = some c → c ≠ b) ∧ ∀ p ∈ X.pn ++ pins, p.1 ≠ b) : Inv X pins σ H' s' := by
  obtain ⟨h', g', d', t', o'⟩ := s'
  have e : o' = s.os := ho
  subst e
  exact I.call (g' := g') (t' := t') (d' := d') u hok hg hch
end

/-! ### the judgements -/
/-- an exception: its class, its own dict's address (where it has one), the abstract heap behind it -/
abbrev XK := Value → Option Addr → Hp → Prop
abbrev St := List (Option V)
abbrev VK := V → Hp → Prop
/-- an expression's reading; a test's; an argument list's -/
abbrev TE := St → Hp → VK → Prop
abbrev TT := St → Hp → (Bool → Hp → Prop) → Prop
abbrev TA := St → Hp → (List V → Hp → Prop) → Prop
/-- what is wanted behind a statement -/
structure Ends where
  nx : St → Hp → Prop
  rt : VK
  bk : St → Hp → Prop := fun _ _ => False
  ct : St → Hp → Prop := fun _ _ => False
abbrev TS := Ends → St → Hp → Prop

def EP (X : Cx) (pins : List (Addr × Obj)) (σ : St) (Q : VK) (u : Value) (s' : Shared) : Prop := ∃ v H', Inv X pins σ H' s' ∧ RelV v u ∧ Q v H'
def TP (X : Cx) (pins : List (Addr × Obj)) (σ : St) (Q : Bool → Hp → Prop) (b : Bool) (s' : Shared) : Prop := ∃ H', Inv X pins σ H' s' ∧ Q b H'
def AP (X : Cx) (pins : List (Addr × Obj)) (σ : St) (Q : List V → Hp → Prop) (us : List Value) (s' : Shared) : Prop := ∃ vs H', Inv X pins σ H' s' ∧ Vals vs us ∧ Q vs H'
def SP (X : Cx) (pins : List (Addr × Obj)) (D : Ends) (f : Flow) (s' : Shared) : Prop :=
  match f with
  | .next => ∃ σ' H', Inv X pins σ' H' s' ∧ D.nx σ' H'
  | .brk => ∃ σ' H', Inv X pins σ' H' s' ∧ D.bk σ' H'
  | .cont => ∃ σ' H', Inv X pins σ' H' s' ∧ D.ct σ' H'
  | .ret u => ∃ v σ' H', Inv X pins σ' H' s' ∧ RelV v u ∧ D.rt v H'

def PE (X : Cx) (e : Expr) (t : TE) : Prop :=
  ∀ (pins : List (Addr × Obj)) (s : Shared) (σ : St) (H : Hp) (Q : VK), Inv X pins σ H s → t σ H Q → wpAny (model X.prog X.w) X.A (eval e X.env) (EP X pins σ Q) X.xe s
def PT (X : Cx) (e : Expr) (t : TT) : Prop :=
  ∀ (pins : List (Addr × Obj)) (s : Shared) (σ : St) (H : Hp) (Q : Bool → Hp → Prop), Inv X pins σ H s → t σ H Q → wpAny (model X.prog X.w) X.A (isTrue e X.env (eval e X.env)) (TP X pins σ Q) X.xe s
/-- a test whatever its 'whole' is (and, or) -/
def PW (X : Cx) (e : Expr) (t : TT) : Prop :=
  ∀ (whole : Sem Value) (pins : List (Addr × Obj)) (s : Shared) (σ : St) (H : Hp) (Q : Bool → Hp → Prop), Inv X pins σ H s → t σ H Q → wpAny (model X.prog X.w) X.A (isTrue e X.env whole) (TP X pins σ Q) X.xe s
theorem PW.pt {X : Cx} {e : Expr} {t : TT} (h : PW X e t) : PT X e t := h _
/-- an argument list (no star), from the left -/
def PA (X : Cx) (es : List Expr) (t : TA) : Prop :=
  ∀ (pos : Pos) (pins : List (Addr × Obj)) (s : Shared) (σ : St) (H : Hp) (Q : List V → Hp → Prop), Inv X pins σ H s → t σ H Q → wpAny (model X.prog X.w) X.A (spliced (backTo pos (starEach es X.env))) (AP X pins σ Q) X.xe s
def PS (X : Cx) (st : Stmt) (t : TS) : Prop :=
  ∀ (pins : List (Addr × Obj)) (s : Shared) (σ : St) (H : Hp) (D : Ends), Inv X pins σ H s → t D σ H → wpAny (model X.prog X.w) X.A (exec st X.env) (SP X pins D) X.xe s
def PSs (X : Cx) (st : List Stmt) (t : TS) : Prop :=
  ∀ (pins : List (Addr × Obj)) (s : Shared) (σ : St) (H : Hp) (D : Ends), Inv X pins σ H s → t D σ H → wpAny (model X.prog X.w) X.A (execs st X.env) (SP X pins D) X.xe s
/-- weaken the end -/
theorem thn {α : Type} {t : Sem α} {Q Q' : α → Shared → Prop} {M : Model} {A : Around} {E : Value → Shared → Prop} {s : Shared} (h : wpAny M A t Q E s) (hQ : ∀ a s, Q a s → Q' a s) : wpAny M A t Q' E s := wpAny_mono h hQ fun _ _ x => x
end L2

namespace L2
open PySem PySem.Spec PyProof.Rows
section
variable {X : Cx}

/-! ### names and constants -/
def tVar (i : Nat) : TE := fun σ H Q => ∃ v, σ[i]? = some (some v) ∧ Q v H
def tC (v : V) : TE := fun _ H Q => Q v H
theorem pe_var {i : Nat} {x : Str} {pos : Pos} (hN : X.N[i]? = some x) (hv : Vis X.env.scope x) (hd : (x == ("__debug__" : Str)) = false := by decide) (hcd : (x == ("__classdict__" : Str)) = false := by decide) : PE X (.Name x pos) (tVar i) := by
  intro pins s σ H Q I h
  obtain ⟨v, e, h⟩ := h
  obtain ⟨m, hn, hl⟩ := I.loc
  obtain ⟨u, r, l⟩ := hl i x v hN e hv
  have fin : EP X pins σ Q u s := ⟨v, H, I, r, h⟩
  rcases l with ⟨hk, hm⟩ | ⟨hk, c, hc, hcell⟩
  · exact wpAny_Name (wpAny_loadName_local I.ok.kind hk hn hm fin) hd
  · rcases hk with hk | hk
    · exact wpAny_Name (wpAny_loadName_cell I.ok.kind hk hc hcell fin) hd
    · exact wpAny_Name (wpAny_loadName_free I.ok.kind hk hc hcell fin hcd) hd
theorem pe_int {i j pos} : PE X (.Constant (.int i) j pos) (tC (.int i)) := fun _ _ _ H _ I h => wpAny_Constant_int ⟨.int i, H, I.tok _, ⟨_, rfl⟩, h⟩
theorem pe_bl {b j pos} : PE X (.Constant (.bool b) j pos) (tC (.bl b)) := fun _ _ _ H _ I h => Constant_bool ⟨.bl b, H, I, rfl, h⟩
theorem pe_non {j pos} : PE X (.Constant .none j pos) (tC .non) := fun _ _ _ H _ I h => Constant_none ⟨.non, H, I, rfl, h⟩

/-- a global name of the def -/
def Gl (X : Cx) (x : Str) : Prop := X.env.kindOf x = some .globalImplicit
theorem ld_glob {E : Value → Shared → Prop} {pins : List (Addr × Obj)} {s : Shared} {σ : St} {H : Hp} {x : Str} {u : Value} {pos : Pos} {Q : Value → Shared → Prop} (I : Inv X pins σ H s) (hg : Gl X x) (hm : X.mg x = some u) (h : Q u s)
    (hd : (x == ("__debug__" : Str)) = false := by decide) : wpAny (model X.prog X.w) X.A (eval (.Name x pos) X.env) Q E s :=
  Calls.Name_function_global I.ok.kind hg (Calls.loadGlobal_global (by rw [I.ok.glob]; exact I.mod.glob.keeps I.bk) hm h) hd
theorem ld_blt {E : Value → Shared → Prop} {pins : List (Addr × Obj)} {s : Shared} {σ : St} {H : Hp} {x : Str} {u : Value} {pos : Pos} {Q : Value → Shared → Prop} (I : Inv X pins σ H s) (hg : Gl X x) (hm : X.mg x = none) (hv : bootBuiltins x = some u) (h : Q u s)
    (hn : x ≠ "__name__" := by decide) (hd : (x == ("__debug__" : Str)) = false := by decide) : wpAny (model X.prog X.w) X.A (eval (.Name x pos) X.env) Q E s := by
  obtain ⟨mb, h1, h2⟩ := I.mod.blt
  exact Calls.Name_function_global I.ok.kind hg (Calls.loadGlobal_builtin (by rw [I.ok.glob]; exact I.mod.glob.keeps I.bk) hm (by rw [I.ok.blt]; exact h1.keeps I.bk) ((h2 x hn).trans hv) h) hd
/-- a module's constant, a class, a function, as a value -/
theorem pe_glob {x : Str} {v : V} {u : Value} {pos : Pos} (hg : Gl X x) (hm : X.mg x = some u) (r : RelV v u) (hd : (x == ("__debug__" : Str)) = false := by decide) : PE X (.Name x pos) (tC v) :=
  fun _ _ _ H _ I h => ld_glob I hg hm ⟨v, H, I, r, h⟩ hd

/-! ### arithmetic -/
variable {a b : Expr} {ta tb : TE} {pos : Pos}

/-! ### comparisons -/
def PC (X : Cx) (op : CmpOp) (a b : Expr) (t : TE) : Prop :=
  ∀ (pins : List (Addr × Obj)) (s : Shared) (σ : St) (H : Hp) (Q : VK), Inv X pins σ H s → t σ H Q →
    wpAny (model X.prog X.w) X.A (eval a X.env) (fun v s₁ => wpAny (model X.prog X.w) X.A (eval b X.env) (fun u s₂ => wpAny (model X.prog X.w) X.A (compareOp op v u) (EP X pins σ Q) X.xe s₂) X.xe s₁) X.xe s
/-- a comparison as a value, as a test -/
def tB (t : TE) : TT := fun σ H Q => t σ H fun x H1 => ∃ c, x = .bl c ∧ Q c H1
theorem pt_cmp {op : CmpOp} {t : TE} (h : PC X op a b t) (h1 : behindInMarks op b = false := by first | exact nobehind _ (by decide) (by decide) | rfl) : PT X (.Compare a [op] [b] pos) (tB t) := by
  intro pins s σ H Q I hw
  refine wpAny_isTrue_Compare1 (thn (h pins s σ H _ I hw) fun v s1 h1 => thn h1 fun u s2 h2 => thn h2 fun c s3 ⟨x, H1, I1, r1, q1⟩ => ?_) h1
  obtain ⟨d, rfl, q⟩ := q1
  cases r1
  exact wpAny_truthy_bool ⟨H1, I1, q⟩
/-- an expression whose value is a bool, as a test -/
theorem pt_val {e : Expr} {t : TE} (h : PE X e t) (he : ∀ whole, isTrue e X.env whole = (do let v ← whole; standAt e.pos; holding [v] (truthy v)) := by intro _; rfl) : PT X e (tB t) := by
  intro pins s σ H Q I hw
  refine isTrue_plain (thn (h pins s σ H _ I hw) fun v s1 ⟨x, H1, I1, r1, q1⟩ => ?_) (he _)
  obtain ⟨d, rfl, q⟩ := q1
  cases r1
  exact wpAny_truthy_bool ⟨H1, I1, q⟩

/-! ### and, or, not -/
variable {tA tB' : TT} {rest : List Expr}
def tAnd (t u : TT) : TT := fun σ H Q => t σ H fun c H1 => if c = true then u σ H1 Q else Q false H1
def tOr (t u : TT) : TT := fun σ H Q => t σ H fun c H1 => if c = true then Q true H1 else u σ H1 Q
def tNot (t : TT) : TT := fun σ H Q => t σ H fun c H1 => Q (!c) H1
theorem pw_and1 (ha : PT X a tA) : PW X (.BoolOp .And [a] pos) tA := by
  intro wh pins s σ H Q I h
  refine isTrue_and (thn (ha pins s σ H Q I h) fun c s1 e => ?_)
  cases c with
  | true => exact isTrue_and_nil e
  | false => exact e
theorem pw_or1 (ha : PT X a tA) : PW X (.BoolOp .Or [a] pos) tA := by
  intro wh pins s σ H Q I h
  refine isTrue_or (thn (ha pins s σ H Q I h) fun c s1 e => ?_)
  cases c with
  | false => exact isTrue_or_nil e
  | true => exact e
theorem pw_and (ha : PT X a tA) (hb : PW X (.BoolOp .And (b :: rest) pos) tB') : PW X (.BoolOp .And (a :: b :: rest) pos) (tAnd tA tB') := by
  intro wh pins s σ H Q I h
  refine isTrue_and (thn (ha pins s σ H _ I h) fun c s1 ⟨H1, I1, q1⟩ => ?_)
  cases c with
  | true => exact hb wh pins s1 σ H1 Q I1 q1
  | false => exact ⟨H1, I1, q1⟩
theorem pw_or (ha : PT X a tA) (hb : PW X (.BoolOp .Or (b :: rest) pos) tB') : PW X (.BoolOp .Or (a :: b :: rest) pos) (tOr tA tB') := by
  intro wh pins s σ H Q I h
  refine isTrue_or (thn (ha pins s σ H _ I h) fun c s1 ⟨H1, I1, q1⟩ => ?_)
  cases c with
  | true => exact ⟨H1, I1, q1⟩
  | false => exact hb wh pins s1 σ H1 Q I1 q1
theorem pt_not (ha : PT X a tA) : PT X (.UnaryOp .Not a pos) (tNot tA) := by
  intro pins s σ H Q I h
  exact isTrue_not (ha pins s σ H (fun c H1 => Q (!c) H1) I h)
/-- a if t else b -/
def tIf (t : TT) (ta tb : TE) : TE := fun σ H Q => t σ H fun c H1 => if c = true then ta σ H1 Q else tb σ H1 Q
theorem pe_ifExp {c : Expr} (hc : PT X c tA) (ha : PE X a ta) (hb : PE X b tb) : PE X (.IfExp c a b pos) (tIf tA ta tb) := by
  intro pins s σ H Q I h
  refine wpAny_IfExp (thn (hc pins s σ H _ I h) fun d s1 ⟨H1, I1, q1⟩ => ?_)
  cases d with
  | true => exact ha pins s1 σ H1 Q I1 q1
  | false => exact hb pins s1 σ H1 Q I1 q1
end
end L2

namespace L2
open PySem PySem.Spec PyProof.Rows

/-! ### a list, a tuple that is read: tracked, frozen, or an object of the module -/
def SqL (K : PySem.W.Frag) (H : Hp) (a : Addr) (xs : List V) : Prop :=
  Rd H a (.lst xs) ∨
    ∃ (o : Obj) (its : Array Value) (n : Nat), K.lookup a = some o ∧ o.cls = .type "list" ∧ o.dict = none ∧ o.data = .seq its n ∧ its.size ≤ sizeLine ∧ Vals xs its.toList
def SqT (K : PySem.W.Frag) (H : Hp) (a : Addr) (xs : List V) : Prop :=
  Rd H a (.tup xs) ∨
    ∃ (o : Obj) (its : Array Value) (n : Nat), K.lookup a = some o ∧ o.cls = .type "tuple" ∧ o.data = .seq its n ∧ its.size ≤ sizeLine ∧ Vals xs its.toList
def absV : Value → Option V
  | .none => some .non
  | .bool b => some (.bl b)
  | .int i _ => some (.int i)
  | .str x _ => some (.str x)
  | .bytes b _ => some (.byt b)
  | .float b _ => some (.flt b)
  | .ref a => some (.ref a)
  | .type n => some (.ty n)
  | _ => none
theorem RelV.abs {x : V} {u : Value} (r : RelV x u) : absV u = some x := by
  cases x with
  | non => cases r; rfl
  | bl _ => cases r; rfl
  | int _ => obtain ⟨t, rfl⟩ := r; rfl
  | str _ => obtain ⟨t, rfl⟩ := r; rfl
  | byt _ => obtain ⟨t, rfl⟩ := r; rfl
  | flt _ => obtain ⟨t, rfl⟩ := r; rfl
  | ref _ => cases r; rfl
  | ty _ => cases r; rfl
theorem RelV.inj {x y : V} {u : Value} (r : RelV x u) (q : RelV y u) : x = y := Option.some.inj (r.abs.symm.trans q.abs)
theorem Vals.inj : ∀ {xs ys : List V} {us : List Value}, Vals xs us → Vals ys us → xs = ys
  | _, _, _, .nil, .nil => rfl
  | _, _, _, .cons r t, .cons r' t' => by rw [r.inj r', Vals.inj t t']
section
variable {X : Cx} {pins : List (Addr × Obj)} {σ : St} {H : Hp} {s : Shared} {a : Addr} {xs ys : List V}
theorem SqL.of {K : PySem.W.Frag} (h : H a = some (.lst xs)) : SqL K H a xs := .inl (.inl h)
theorem SqT.of {K : PySem.W.Frag} (h : H a = some (.tup xs)) : SqT K H a xs := .inl (.inl h)
theorem Inv.list (I : Inv X pins σ H s) (h : SqL X.K H a xs) : ∃ its : List Value, Vals xs its ∧ PlainL s.heap a its.toArray ∧ xs.length ≤ sizeLine := by
  rcases h with h | ⟨o, its, n, hk, hc, hd, hs, hz, r⟩
  · obtain ⟨z, its, n, r, e⟩ := h.ok I.hok
    exact ⟨its, r, ⟨_, n, e, rfl, rfl, rfl⟩, z⟩
  · refine ⟨its.toList, r, ⟨o, n, I.kIn a o hk, hc, hd, by simpa using hs⟩, ?_⟩
    have e := r.length
    simp only [Array.length_toList] at e
    omega
theorem Inv.tuple (I : Inv X pins σ H s) (h : SqT X.K H a xs) : ∃ its : List Value, Vals xs its ∧ IsTup s.heap a its.toArray ∧ xs.length ≤ sizeLine := by
  rcases h with h | ⟨o, its, n, hk, hc, hs, hz, r⟩
  · obtain ⟨z, its, r, p⟩ := h.ok I.hok
    exact ⟨its, r, p, z⟩
  · refine ⟨its.toList, r, ⟨o, I.kIn a o hk, hc, n, by simpa using hs⟩, ?_⟩
    have e := r.length
    simp only [Array.length_toList] at e
    omega
theorem Inv.list_inj (I : Inv X pins σ H s) (h : SqL X.K H a xs) (h' : SqL X.K H a ys) : xs = ys := by
  obtain ⟨its, r, ⟨o, n, e, _, _, d⟩, _⟩ := I.list h
  obtain ⟨its', r', ⟨o', n', e', _, _, d'⟩, _⟩ := I.list h'
  rw [e] at e'; cases e'
  rw [d] at d'
  injection d' with d1 _
  have : its = its' := by simpa using congrArg Array.toList d1
  subst this
  exact r.inj r'
end

/-! ### another wish about exceptions -/
abbrev Cx.wish (X : Cx) (E : Value → Shared → Prop) : Cx := { X with xe := E }
/-- no exception leaves -/
abbrev Cx.nox (X : Cx) : Cx := X.wish fun _ _ => False
theorem Cx.Ok.wish {X : Cx} (ok : X.Ok) (E : Value → Shared → Prop) : (X.wish E).Ok :=
  ⟨ok.mod, ok.kind, ok.glob, ok.blt, ok.above, ok.inj, ok.has, ok.cab, ok.hd, ok.frames, ok.stk, ok.exf, ok.bs, ok.bsz, ok.noex, ok.exfs, ok.funs, ok.frf⟩
theorem Cx.Ok.unwish {X : Cx} {E : Value → Shared → Prop} (ok : (X.wish E).Ok) : X.Ok :=
  ⟨ok.mod, ok.kind, ok.glob, ok.blt, ok.above, ok.inj, ok.has, ok.cab, ok.hd, ok.frames, ok.stk, ok.exf, ok.bs, ok.bsz, ok.noex, ok.exfs, ok.funs, ok.frf⟩
section
variable {X : Cx} {pins : List (Addr × Obj)} {σ : St} {H : Hp} {s : Shared} {E : Value → Shared → Prop}
theorem Inv.wish (I : Inv X pins σ H s) (E : Value → Shared → Prop) : Inv (X.wish E) pins σ H s := ⟨I.ok.wish E, I.os, I.bare, I.base, I.loc, I.cell, I.free, I.freeC, I.pin, I.hok, I.len⟩
theorem Inv.unwish (I : Inv (X.wish E) pins σ H s) : Inv X pins σ H s := ⟨I.ok.unwish, I.os, I.bare, I.base, I.loc, I.cell, I.free, I.freeC, I.pin, I.hok, I.len⟩
theorem SP.unwish {D : Ends} {f : Flow} {s' : Shared} (h : SP (X.wish E) pins D f s') : SP X pins D f s' := by
  cases f with
  | next => obtain ⟨σ', H', I, q⟩ := h; exact ⟨σ', H', I.unwish, q⟩
  | brk => obtain ⟨σ', H', I, q⟩ := h; exact ⟨σ', H', I.unwish, q⟩
  | cont => obtain ⟨σ', H', I, q⟩ := h; exact ⟨σ', H', I.unwish, q⟩
  | ret u => obtain ⟨v, σ', H', I, r, q⟩ := h; exact ⟨v, σ', H', I.unwish, r, q⟩
theorem PSs.nox {st : List Stmt} {t : TS} (h : PSs X.nox st t) : PSs X st t := fun pins s σ H D I hw =>
  wpAny_mono (h pins s σ H D (I.wish _) hw) (fun _ _ q => q.unwish) fun _ _ z => False.elim z
end

/-! ### blocks and small statements -/
section
variable {X : Cx} {st : Stmt} {rest : List Stmt} {t u : TS} {e : Expr} {te : TE} {pos : Pos}
def tNext : TS := fun D σ H => D.nx σ H
def tSeq (t u : TS) : TS := fun D σ H => t { D with nx := u D } σ H
theorem pss_nil : PSs X [] tNext := fun _ _ σ H _ I h => wpAny_execs_nil ⟨σ, H, I, h⟩
theorem pss_cons (h1 : PS X st t) (h2 : PSs X rest u) : PSs X (st :: rest) (tSeq t u) := by
  intro pins s σ H D I h
  refine wpAny_execs_cons (thn (h1 pins s σ H { D with nx := u D } I h) fun f s1 q => ?_)
  cases f with
  | next =>
    obtain ⟨σ', H', I', q⟩ := q
    exact h2 pins s1 σ' H' D I' q
  | ret v => exact q
  | brk => exact q
  | cont => exact q
theorem pss_one (h1 : PS X st t) : PSs X [st] t := by
  intro pins s σ H D I h
  refine wpAny_execs_cons (thn (h1 pins s σ H D I h) fun f s1 q => ?_)
  cases f with
  | next => exact wpAny_execs_nil q
  | ret v => exact q
  | brk => exact q
  | cont => exact q
/-- in a def's body nothing is shown -/
theorem Inv.quiet {pins : List (Addr × Obj)} {σ : St} {H : Hp} {s : Shared} (I : Inv X pins σ H s) : interactive X.env = false := by simp [interactive, I.ok.kind]
/-- an expression whose value is dropped -/
def tDrop (te : TE) : TS := fun D σ H => te σ H fun _ H1 => D.nx σ H1
theorem ps_expr (he : PE X e te) (hs : swapsWith e none pos.line X.env = pure false := by rfl) : PS X (.Expr e pos) (tDrop te) := by
  intro pins s σ H D I h
  exact wpAny_Expr_any (thn (he pins s σ H _ I h) fun v s1 ⟨x, H1, I1, r1, q1⟩ => ⟨σ, H1, I1, q1⟩) I.quiet hs
def tRet (te : TE) : TS := fun D σ H => te σ H D.rt
theorem ps_ret (he : PE X e te) : PS X (.Return (some e) pos) (tRet te) := by
  intro pins s σ H D I h
  exact wpAny_Return_some (thn (he pins s σ H _ I h) fun v s1 ⟨x, H1, I1, r1, q1⟩ => ⟨x, σ, H1, I1, r1, q1⟩)
def tIfS (c : TT) (t u : TS) : TS := fun D σ H => c σ H fun b H1 => if b = true then t D σ H1 else u D σ H1
theorem ps_if {c : Expr} {a b : List Stmt} {tc : TT} (hc : PT X c tc) (ha : PSs X a t) (hb : PSs X b u) : PS X (.If c a b pos) (tIfS tc t u) := by
  intro pins s σ H D I h
  refine wpAny_If (thn (hc pins s σ H _ I h) fun d s1 ⟨H1, I1, q1⟩ => ?_)
  cases d with
  | true => exact ha pins s1 σ H1 D I1 q1
  | false => exact hb pins s1 σ H1 D I1 q1
end

/-! ### targets -/
abbrev TG := V → St → Hp → (St → Hp → Prop) → Prop
def PG (X : Cx) (target : Expr) (t : TG) : Prop :=
  ∀ (pins : List (Addr × Obj)) (s : Shared) (σ : St) (H : Hp) (v : V) (u : Value) (Q : St → Hp → Prop), Inv X pins σ H s → RelV v u → t v σ H Q →
    wpAny (model X.prog X.w) X.A (assign target X.env u) (fun _ s' => ∃ σ' H', Inv X pins σ' H' s' ∧ Q σ' H') X.xe s
/-- o[i] = v, by values -/
abbrev TSet := V → V → V → Hp → (Hp → Prop) → Prop
def PSet (X : Cx) (t : TSet) : Prop :=
  ∀ (pins : List (Addr × Obj)) (s : Shared) (σ : St) (H : Hp) (o i v : V) (ov iv u : Value) (Q : Hp → Prop), Inv X pins σ H s → RelV o ov → RelV i iv → RelV v u → t o i v H Q →
    wpAny (model X.prog X.w) X.A (setItem ov iv u) (fun _ s' => ∃ H', Inv X pins σ H' s' ∧ Q H') X.xe s
/-- a op= b, by values -/
abbrev TIp := V → V → Hp → VK → Prop
def PIp (X : Cx) (op : Operator) (t : TIp) : Prop :=
  ∀ (pins : List (Addr × Obj)) (s : Shared) (σ : St) (H : Hp) (x y : V) (v u : Value) (Q : VK), Inv X pins σ H s → RelV x v → RelV y u → t x y H Q →
    wpAny (model X.prog X.w) X.A (inplaceOp op v u) (EP X pins σ Q) X.xe s
section
variable {X : Cx} {pos : Pos}
def gName (i : Nat) : TG := fun v σ H Q => Q (σ.set i (some v)) H
theorem pg_name {i : Nat} {x : Str} (hN : X.N.Nodup) (hi : X.N[i]? = some x) (hx : Loc X.env.scope x) (hf : X.fn x = true ∨ X.env.scope.names.lookup x = some .local := by first | exact .inl rfl | exact .inr rfl | assumption) : PG X (.Name x pos) (gName i) := by
  intro pins s σ H v u Q I r h
  exact wpAny_assign_Name (store_ok I hN hi hx r (fun s' I' => ⟨_, H, I', h⟩) hf)
/-- o[i] = .. -/
def gSub (to ti : TE) (t : TSet) : TG := fun v σ H Q => to σ H fun o H1 => ti σ H1 fun i H2 => t o i v H2 fun H3 => Q σ H3
theorem pg_sub {o i : Expr} {to ti : TE} {t : TSet} (ho : PE X o to) (hi : PE X i ti) (hs : PSet X t)
    (ha : ∀ v, assign (.Subscript o i pos) X.env v = (do
      let ov ← holding [v] (eval o X.env)
      let iv ← holding [v, ov] (eval i X.env)
      standAt pos
      holding [v, ov, iv] (setItem ov iv v)
      release [v, ov, iv] []) := by intro _; rfl) : PG X (.Subscript o i pos) (gSub to ti t) := by
  intro pins s σ H v u Q I r h
  rw [ha]
  refine wpAny_bind (wpAny_holding (thn (ho pins s σ H _ I h) fun ov s1 ⟨x, H1, I1, r1, q1⟩ => ?_))
  refine wpAny_bind (wpAny_holding (thn (hi pins s1 σ H1 _ I1 q1) fun iv s2 ⟨y, H2, I2, r2, q2⟩ => ?_))
  refine wpAny_bind (wpAny_standAt (wpAny_bind (wpAny_holding (thn (hs pins s2 σ H2 x y v ov iv u _ I2 r1 r2 r q2) fun _ s3 ⟨H3, I3, q3⟩ => ?_))))
  exact wpAny_release ⟨σ, H3, I3, q3⟩
/-- target = value -/
def tAsg (te : TE) (g : TG) : TS := fun D σ H => te σ H fun x H1 => g x σ H1 D.nx
theorem ps_asg {tg e : Expr} {te : TE} {g : TG} (he : PE X e te) (hg : PG X tg g) (hs : swapsWithSole [tg] e pos.line X.env = pure false := by rfl) (hw : swappedStores [tg] e X.env = pure none := by rfl)
    (h1 : (assignEach [tg] X.env).map (·.2) = [assign tg X.env] := by rfl) : PS X (.Assign [tg] e pos) (tAsg te g) := by
  intro pins s σ H D I h
  refine wpAny_Assign_stores (thn (he pins s σ H _ I h) fun v s1 ⟨x, H1, I1, r1, q1⟩ => ?_) hs hw
  rw [h1]
  exact thn (hg pins s1 σ H1 x v _ I1 r1 q1) fun _ s2 q => q
/-- name = value -/
theorem ps_set {i : Nat} {x : Str} {e : Expr} {te : TE} {pos' : Pos} (hN : X.N.Nodup) (hi : X.N[i]? = some x) (hx : Loc X.env.scope x) (he : PE X e te) (hs : swapsWith e (some (.Name x pos')) pos.line X.env = pure false := by rfl) (hf : X.fn x = true ∨ X.env.scope.names.lookup x = some .local := by first | exact .inl rfl | exact .inr rfl | assumption) :
    PS X (.Assign [.Name x pos'] e pos) (tAsg te (gName i)) := by
  intro pins s σ H D I h
  refine wpAny_Assign_Name (thn (he pins s σ H _ I h) fun v s1 ⟨y, H1, I1, r1, q1⟩ => ?_) hs
  exact store_ok I1 hN hi hx r1 (fun s2 I2 => ⟨_, H1, I2, q1⟩) hf
/-- name op= e -/
def tAug (i : Nat) (te : TE) (ti : TIp) : TS := fun D σ H => ∃ x, σ[i]? = some (some x) ∧ te σ H fun y H1 => ti x y H1 fun z H2 => D.nx (σ.set i (some z)) H2
theorem ps_aug {i : Nat} {x : Str} {e : Expr} {te : TE} {op : Operator} {ti : TIp} {pos' : Pos} (hN : X.N.Nodup) (hi : X.N[i]? = some x) (hx : Loc X.env.scope x) (he : PE X e te) (ho : PIp X op ti) (hf : X.fn x = true ∨ X.env.scope.names.lookup x = some .local := by first | exact .inl rfl | exact .inr rfl | assumption) :
    PS X (.AugAssign (.Name x pos') op e pos) (tAug i te ti) := by
  intro pins s σ H D I h
  obtain ⟨v, e1, h⟩ := h
  obtain ⟨m, hn, hl⟩ := I.loc
  have vis : Vis X.env.scope x := by rcases hx with k | k; exact .inl k; exact .inr (.inl k)
  obtain ⟨u, r, l⟩ := hl i x v hi e1 vis
  refine wpAny_AugAssign_Name ?_
  have go : wpAny (model X.prog X.w) X.A (eval e X.env) (fun w s₂ => wpAny (model X.prog X.w) X.A (inplaceOp op u w) (fun r s₃ => wpAny (model X.prog X.w) X.A (storeName X.env x r) (fun _ => SP X pins D .next) X.xe s₃) X.xe s₂) X.xe s := by
    refine thn (he pins s σ H _ I h) fun w s1 ⟨y, H1, I1, r1, q1⟩ => ?_
    refine thn (ho pins s1 σ H1 v y u w _ I1 r r1 q1) fun z s2 ⟨zv, H2, I2, r2, q2⟩ => ?_
    exact store_ok I2 hN hi hx r2 (fun s3 I3 => ⟨_, H2, I3, q2⟩) hf
  rcases l with ⟨hk, hm⟩ | ⟨hk, c, hc, hcell⟩
  · exact wpAny_loadName_local I.ok.kind hk hn hm go
  · rcases hk with hk | hk
    · exact wpAny_loadName_cell I.ok.kind hk hc hcell go
    · rcases hx with k | k
      · have : X.env.scope.names.lookup x = some .free := hk
        rw [k] at this; cases this
      · have : X.env.scope.names.lookup x = some .free := hk
        rw [k] at this; cases this
/-- ints -/
def ipI (f : Int → Int → Int) : TIp := fun x y H Q => ∃ i j, x = .int i ∧ y = .int j ∧ Q (.int (f i j)) H
theorem ip_add : PIp X .Add (ipI fun i j => i + j) := by
  intro pins s σ H x y v u Q I r1 r2 h
  obtain ⟨i, j, e1, e2, q⟩ := h
  subst e1; subst e2
  obtain ⟨t, rfl⟩ := r1
  obtain ⟨t', rfl⟩ := r2
  exact iadd_int ⟨.int _, H, I.tok _, ⟨_, rfl⟩, q⟩
end

/-! ### while -/
section
variable {X : Cx} {pos : Pos}
/-- the invariant W with its measure -/
def tWhile (c : TT) (tb : TS) : TS := fun D σ H => ∃ W : Nat → St → Hp → Prop, (∃ m, W m σ H) ∧ ∀ m σ H, W m σ H →
  c σ H fun b H1 => if b = true then ∃ N : St → Hp → Prop, (∀ σ' H', N σ' H' → ∃ m', m' < m ∧ W m' σ' H') ∧ tb { D with nx := N, ct := N, bk := D.nx } σ H1 else D.nx σ H1
theorem ps_while {c : Expr} {body : List Stmt} {tc : TT} {tb : TS} (hp : PassesOwn (model X.prog X.w) X.A X.env X.xe) (hc : PT X c tc) (hb : PSs X body tb) : PS X (.While c body [] pos) (tWhile tc tb) := by
  intro pins s σ H D I h
  obtain ⟨W, ⟨m0, w0⟩, turn⟩ := h
  refine wpAny_While (codeAny_whileLoop (fun n s' => ∃ σ' H', Inv X pins σ' H' s' ∧ W n σ' H') ?_ m0 ⟨σ, H, I, w0⟩)
  rintro n s1 ⟨σ1, H1, I1, w1⟩
  refine wpAny_passesOwn hp (thn (hc pins s1 σ1 H1 _ I1 (turn n σ1 H1 w1)) fun b s2 ⟨H2, I2, q2⟩ => ?_)
  cases b with
  | true =>
    obtain ⟨N, hN, q2⟩ := q2
    rw [if_pos rfl]
    refine wpAny_passesOwn hp (thn (hb pins s2 σ1 H2 _ I2 q2) fun f s3 q3 => ?_)
    cases f with
    | next =>
      obtain ⟨σ3, H3, I3, n3⟩ := q3
      obtain ⟨m', hm, w3⟩ := hN σ3 H3 n3
      exact ⟨m', hm, σ3, H3, I3, w3⟩
    | cont =>
      obtain ⟨σ3, H3, I3, n3⟩ := q3
      obtain ⟨m', hm, w3⟩ := hN σ3 H3 n3
      exact ⟨m', hm, σ3, H3, I3, w3⟩
    | brk => exact q3
    | ret v => exact q3
  | false =>
    rw [if_neg Bool.false_ne_true]
    exact wpAny_execs_nil ⟨σ1, H2, I2, q2⟩
end

/-! ### what a loop or a comprehension walks -/
/-- at turn i: it yields x (the heap may grow), or it stops -/
structure It where
  go : Nat → Hp → Prop
  yld : Nat → Hp → V → Hp → Prop
  stop : Nat → Hp → Prop
/-- the iterator's own objects may turn: they are not the frame's, not pinned, younger than the entry (or a comprehension's own) -/
def FpOk (X : Cx) (pins : List (Addr × Obj)) (H : Hp) (b : Addr) : Prop :=
  H b = none ∧ b ≠ X.env.locals ∧ b ∉ X.fs ∧ (b ∈ X.ex ∨ X.s_0.heap.objs.size ≤ b) ∧ (∀ x c, X.env.cells.lookup x = some c → c ≠ b) ∧ ∀ p ∈ X.pn ++ pins, p.1 ≠ b
theorem Inv.fpOk {X : Cx} {pins : List (Addr × Obj)} {σ : St} {H H' : Hp} {s : Shared} {b : Addr} (I : Inv X pins σ H s) (hb : s.heap.objs.size ≤ b) (hn : H' b = none) : FpOk X pins H' b := by
  refine ⟨hn, Nat.ne_of_gt (Nat.lt_of_lt_of_le I.lt hb), I.nofs hb, .inr (Nat.le_trans I.sz hb), fun x c e z => ?_, fun p hp z => ?_⟩
  · obtain ⟨v, q⟩ := I.cell x c e
    exact absurd (Nat.lt_of_lt_of_le q.lt (by rw [z]; exact hb)) (Nat.lt_irrefl _)
  · exact absurd (Nat.lt_of_lt_of_le (Heap.lt_size (I.pin p hp).1) (by rw [z]; exact hb)) (Nat.lt_irrefl _)
structure Turn (P : Program) (w : World) (K : PySem.W.Frag) (tg : Expr) (J : It) (fp : List Addr) (it : Addr) (tn : Nat → Heap → Prop) : Prop where
  mem : it ∈ fp
  obj : ∀ i h, tn i h → ∀ b ∈ fp, ∃ o, h.get? b = some o ∧ ∀ v, o.data ≠ .cell v
  keep : ∀ i h h', tn i h → (∀ b ∈ fp, ∀ o, h.get? b = some o → h'.get? b = some o) → tn i h'
  item : ∀ (X : Cx), X.prog = P → X.w = w → X.K = K → X.calm = true → ∀ (i : Nat) (pins : List (Addr × Obj)) (s : Shared) (σ : St) (H : Hp) (E : Value → Shared → Prop), Inv X pins σ H s → (∀ b ∈ fp, FpOk X pins H b) → tn i s.heap → J.go i H →
    wpAny (model P w) X.A (pyNext (.ref it)) (fun r s1 => ∃ u, r = some u ∧
      wpAny (model P w) X.A (letOwnedTupleGo tg (.ref it) u) (fun _ s2 => ∃ x H', Inv X pins σ H' s2 ∧ RelV x u ∧ J.yld i H x H' ∧ tn (i + 1) s2.heap ∧ ∀ b ∈ fp, H' b = none) E s1) E s
  done : ∀ (X : Cx), X.prog = P → X.w = w → X.K = K → X.calm = true → ∀ (i : Nat) (pins : List (Addr × Obj)) (s : Shared) (σ : St) (H : Hp) (E : Value → Shared → Prop), Inv X pins σ H s → (∀ b ∈ fp, FpOk X pins H b) → tn i s.heap → J.stop i H →
    wpAny (model P w) X.A (pyNext (.ref it)) (fun r s1 => r = none ∧ Inv X pins σ H s1) E s
  self : ∀ (A : Around) (i : Nat) (s : Shared) (Q : Value → Shared → Prop) (E : Value → Shared → Prop), tn i s.heap → Q (.ref it) s → wpAny (model P w) A (pyIter (.ref it)) Q E s
abbrev TI := St → Hp → (It → Hp → Prop) → Prop
/-- an iterator has come -/
def PIE (X : Cx) (pins : List (Addr × Obj)) (σ : St) (tg : Expr) (R : It → Hp → Prop) (itv : Value) (s2 : Shared) : Prop :=
  ∃ (it : Addr) (fp : List Addr) (tn : Nat → Heap → Prop) (J : It) (H' : Hp), itv = .ref it ∧ Inv X pins σ H' s2 ∧ Turn X.prog X.w X.K tg J fp it tn ∧ tn 0 s2.heap ∧ (∀ b ∈ fp, FpOk X pins H' b) ∧ R J H'
def PI (X : Cx) (tg iter : Expr) (wi : TI) : Prop :=
  ∀ (pins : List (Addr × Obj)) (s : Shared) (σ : St) (H : Hp) (R : It → Hp → Prop), Inv X pins σ H s → wi σ H R →
    wpAny (model X.prog X.w) X.A (eval iter X.env) (fun v s1 => wpAny (model X.prog X.w) X.A (pyIter v) (PIE X pins σ tg R) X.xe s1) X.xe s

/-- the step ahead of the store is nothing for an iterator that keeps no tuple -/
theorem go_of {M : Model} {A : Around} {E : Value → Shared → Prop} {s : Shared} {tg : Expr} {it : Addr} {u : Value} {o : Obj} {n : String} {vs : Array Value} {Q : Unit → Shared → Prop} (ho : s.heap.get? it = some o) (hc : o.cls = .type n) (hd : o.data = .fields vs)
    (hn : ["enumerate", "zip", "dict_itemiterator", "dict_reverseitemiterator", "odict_iterator", "itertools.zip_longest", "itertools.pairwise"].contains n = false) (hQ : Q () s) : wpAny M A (letOwnedTupleGo tg (.ref it) u) Q E s := by
  unfold letOwnedTupleGo
  cases tg <;> first
    | exact wpAny_pure hQ
    | (cases u <;> first
        | exact wpAny_pure hQ
        | (refine wpAny_bind (wpAny_load ho ?_)
           rw [hc, hd]
           show wpAny M A (if (["enumerate", "zip", "dict_itemiterator", "dict_reverseitemiterator", "odict_iterator", "itertools.zip_longest", "itertools.pairwise"].contains n && vs[0]? == some (rawInt _)) = true then _ else _) Q E s
           rw [if_neg (by intro h; rw [hn, Bool.false_and] at h; cases h)]
           exact wpAny_pure hQ))

/-- the list at a, as it stands at each turn (a loop may append to it) -/
def Itl (K : PySem.W.Frag) (a : Addr) : It :=
  ⟨fun i H => ∃ xs x, SqL K H a xs ∧ xs[i]? = some x, fun i H x H' => H' = H ∧ ∀ xs, SqL K H a xs → xs[i]? = some x, fun i H => ∃ xs, SqL K H a xs ∧ xs.length ≤ i⟩
/-- lo, lo + 1, .. (n of them) -/
def Itr (lo : Int) (n : Nat) : It := ⟨fun i _ => i < n, fun i H x H' => H' = H ∧ x = .int (lo + i), fun i _ => n ≤ i⟩
theorem turn_list {P : Program} {w : World} {K : PySem.W.Frag} {tg : Expr} (a it : Addr) : Turn P w K tg (Itl K a) [it] it (fun i h => h.IsListIter it a i) where
  mem := by simp
  obj := fun i h st b hb => by
    have e : b = it := by simpa using hb
    subst e
    obtain ⟨o, e, c, d⟩ := st
    exact ⟨o, e, fun v z => by rw [d] at z; cases z⟩
  keep := fun i h h' st k => st.at fun o e => k it (by simp) o e
  item := by
    intro X hP hw hK hc i pins s σ H E I hf st hg
    subst hP hw hK
    obtain ⟨xs, x, hq, hx⟩ := hg
    obtain ⟨its, rv, p, hz⟩ := I.list hq
    obtain ⟨u, hu, ru⟩ := rv.get hx
    obtain ⟨f0, f1, f2, f3, f4, f5⟩ := hf it (by simp)
    refine wpAny_pyNext_list_item st p.isList (x := u) (by simpa using hu) fun h' st' sb => ?_
    have I1 : Inv X pins σ H { s with heap := h' } := I.turned (t' := s.toks) (fun b o hb e => (sb.2 b hb).trans e) f0 f1 f3 f4 f5
    obtain ⟨o, e, c, d⟩ := id st'
    exact ⟨u, rfl, go_of (s := { s with heap := h' }) e c d (by decide) ⟨x, H, I1, ru, ⟨rfl, fun ys hy => by rw [I.list_inj hy hq]; exact hx⟩, st', fun b hb => (hf b hb).1⟩⟩
  done := by
    intro X hP hw hK hc i pins s σ H E I hf st hg
    subst hP hw hK
    obtain ⟨xs, hq, hx⟩ := hg
    obtain ⟨its, rv, p, hz⟩ := I.list hq
    obtain ⟨f0, f1, f2, f3, f4, f5⟩ := hf it (by simp)
    have hl := rv.length
    exact wpAny_pyNext_list_end (I.ok.hd hc) st p.isList (by simp; omega) fun h' eb => ⟨rfl, I.turned (t' := s.toks) (fun b o hb e => eb b o hb e) f0 f1 f3 f4 f5⟩
  self := fun _ _ _ _ _ st h => wpAny_pyIter_listiter st h
theorem turn_range {P : Program} {w : World} {K : PySem.W.Frag} {tg : Expr} (it : Addr) (lo : Int) (n : Nat) : Turn P w K tg (Itr lo n) [it] it (fun i h => IsRangeIter h it (lo + (i : Nat) * 1) ((n : Int) - (i : Nat)) 1) where
  mem := by simp
  obj := fun i h st b hb => by
    have e : b = it := by simpa using hb
    subst e
    exact ⟨_, st, fun v z => by
      have z' : Data.fields _ = Data.cell v := z
      cases z'⟩
  keep := fun i h h' st k => k it (by simp) _ st
  item := by
    intro X hP hw hK hc i pins s σ H E I hf st hg
    subst hP hw hK
    obtain ⟨f0, f1, f2, f3, f4, f5⟩ := hf it (by simp)
    have W := Walks.range (prog := X.prog) (w := X.w) (I.ok.hd hc) it lo 1 n
    refine W.item i s _ _ hg st fun v h' tk hv st' kk => ?_
    obtain ⟨t, rfl⟩ := hv
    have I1 : Inv X pins σ H { s with heap := h', toks := tk } := I.turned (fun b o hb e => kk b o (by simpa using hb) e) f0 f1 f3 f4 f5
    refine ⟨_, rfl, go_of (s := { s with heap := h', toks := tk }) (n := "range_iterator") st' rfl rfl (by decide) ⟨.int (lo + i), H, I1, ⟨t, ?_⟩, ⟨rfl, rfl⟩, st', fun b hb => (hf b hb).1⟩⟩
    rw [Int.mul_one]
  done := by
    intro X hP hw hK hc i pins s σ H E I hf st hg
    subst hP hw hK
    obtain ⟨f0, f1, f2, f3, f4, f5⟩ := hf it (by simp)
    exact wpAny_pyNext_range_end (I.ok.hd hc) st (by have : n ≤ i := hg; omega) fun h' eb => ⟨rfl, I.turned (t' := s.toks) (fun b o hb e => eb b o hb e) f0 f1 f3 f4 f5⟩
  self := fun _ _ _ _ _ st h => wpAny_pyIter_rangeiter st h
end L2

namespace L2
open PySem PySem.Spec PyProof.Rows
section
variable {X : Cx} {tg : Expr}
def iList (K : PySem.W.Frag) (tl : TE) : TI := fun σ H R => tl σ H fun x H1 => ∃ a, x = .ref a ∧ (∃ xs, SqL K H1 a xs) ∧ R (Itl K a) H1
theorem pi_list {l : Expr} {tl : TE} (hl : PE X l tl) : PI X tg l (iList X.K tl) := by
  intro pins s σ H R I h
  refine thn (hl pins s σ H _ I h) fun v s1 ⟨x, H1, I1, r1, q1⟩ => ?_
  obtain ⟨a, e, ⟨xs, hq⟩, q⟩ := q1
  subst e
  cases r1
  obtain ⟨its, rv, p, hz⟩ := I1.list hq
  refine wpAny_pyIter_list p.isList ?_
  refine ⟨s1.heap.objs.size, [s1.heap.objs.size], _, _, H1, rfl, I1.kept (t' := s1.toks) fun b o e => Heap.get?_push_of_some _ e, turn_list a _, ⟨_, Heap.get?_push_size _ rfl, rfl, rfl⟩, fun b hb => ?_, q⟩
  have e : b = s1.heap.objs.size := by simpa using hb
  subst e
  exact I1.fpOk (Nat.le_refl _) (I1.hok.fresh (Nat.le_refl _))
/-- a range object just made, walked -/
theorem range_it {pins : List (Addr × Obj)} {σ : St} {H : Hp} {s : Shared} {R : It → Hp → Prop} {E : Value → Shared → Prop} {lo hi : Int} {t u v : Tok} {tk : Nat} (I : Inv X pins σ H s) (h1 : -(2 ^ 62) ≤ lo) (h2 : lo < 2 ^ 62) (h3 : -(2 ^ 62) ≤ hi) (h4 : hi < 2 ^ 62)
    (q : R (Itr lo (hi - lo).toNat) H) : wpAny (model X.prog X.w) X.A (pyIter (.ref s.heap.objs.size)) (PIE X pins σ tg R) E { s with heap := s.heap.push { cls := .type "range", data := .fields #[.int lo t, .int hi u, .int 1 v] }, toks := tk } := by
  refine wpAny_pyIter_range (IsRange.new ..) (small_one h1 h2 h3 h4) ?_
  have I1 : Inv X pins σ H { s with heap := s.heap.push { cls := .type "range", data := .fields #[.int lo t, .int hi u, .int 1 v] }, toks := tk } := I.kept fun b o e => Heap.get?_push_of_some _ e
  refine ⟨(s.heap.push { cls := .type "range", data := .fields #[.int lo t, .int hi u, .int 1 v] }).objs.size, [(s.heap.push { cls := .type "range", data := .fields #[.int lo t, .int hi u, .int 1 v] }).objs.size], _, _, H, rfl,
    I1.kept (t' := tk) fun b o e => Heap.get?_push_of_some _ e, turn_range _ lo (hi - lo).toNat, ?_, fun b hb => ?_, q⟩
  · have e1 : lo + ((0 : Nat) : Int) * 1 = lo := by simp
    have e2 : (((hi - lo).toNat : Nat) : Int) - ((0 : Nat) : Int) = Builtin.Range.rangeSize lo hi 1 := by rw [rangeSize_one]; split <;> omega
    show IsRangeIter _ _ (lo + ((0 : Nat) : Int) * 1) ((((hi - lo).toNat : Nat) : Int) - ((0 : Nat) : Int)) 1
    rw [e1, e2]
    exact Heap.get?_push_size _ rfl
  · have e : b = (s.heap.push { cls := .type "range", data := .fields #[.int lo t, .int hi u, .int 1 v] }).objs.size := by simpa using hb
    subst e
    exact I1.fpOk (Nat.le_refl _) (I1.hok.fresh (Nat.le_refl _))
def iRng1 (ta : TA) : TI := fun σ H R => ta σ H fun vs H1 => ∃ j : Int, vs = [.int j] ∧ -(2 ^ 62) ≤ j ∧ j < 2 ^ 62 ∧ R (Itr 0 j.toNat) H1
theorem pi_range1 {a : Expr} {ta : TA} {p pos : Pos} (hg : Gl X "range") (hm : X.mg "range" = none) (ha : PA X [a] ta) (hs : starEach [a] X.env = [(false, eval a X.env)] := by rfl) : PI X tg (.Call (.Name "range" p) [a] [] pos) (iRng1 ta) := by
  intro pins s σ H R I h
  refine Call_ (ld_blt I hg hm boot_range (PyProof.Rows.callWith_type1 (thn (ha pos pins s σ H _ I h) fun us s1 ⟨vs, H1, I1, r1, q1⟩ => ?_) hs rfl))
  obtain ⟨j, e, q1, q2, q⟩ := q1
  subst e
  cases r1 with
  | cons r rr =>
    cases rr
    obtain ⟨t, rfl⟩ := r
    exact call_range_1 (range_it I1 (by omega) (by omega) q1 q2 (by simpa using q))

/-! ### for -/
/-- W: the invariant by the turn and a measure; N: what the body is to reach -/
def tFor (wi : TI) (g : TG) (tb : TS) : TS := fun D σ H => wi σ H fun J H1 => ∃ W : Nat → Nat → St → Hp → Prop, (∃ m, W 0 m σ H1) ∧ ∀ i m σ H, W i m σ H →
  (J.stop i H ∧ D.nx σ H) ∨ (J.go i H ∧ ∃ N : St → Hp → Prop, (∀ σ' H', N σ' H' → ∃ m', m' < m ∧ W (i + 1) m' σ' H') ∧ ∀ x H', J.yld i H x H' → g x σ H' fun σ2 H2 => tb { D with nx := N, ct := N, bk := D.nx } σ2 H2)
/-- the records at fp as they stand -/
def pinsAt (fp : List Addr) (h : Heap) : List (Addr × Obj) := fp.filterMap fun b => (h.get? b).map fun o => (b, o)
theorem mem_pinsAt {fp : List Addr} {h : Heap} {b : Addr} {o : Obj} (hb : b ∈ fp) (e : h.get? b = some o) : (b, o) ∈ pinsAt fp h := List.mem_filterMap.mpr ⟨b, hb, by rw [e]; rfl⟩
theorem of_pinsAt {fp : List Addr} {h : Heap} {p : Addr × Obj} (hp : p ∈ pinsAt fp h) : p.1 ∈ fp ∧ h.get? p.1 = some p.2 := by
  obtain ⟨b, hb, e⟩ := List.mem_filterMap.mp hp
  cases q : h.get? b with
  | none => rw [q] at e; cases e
  | some o =>
    rw [q] at e
    have e' : (b, o) = p := Option.some.inj e
    subst e'
    exact ⟨hb, q⟩
theorem Inv.pinned {pins : List (Addr × Obj)} {σ : St} {H : Hp} {s : Shared} {fp : List Addr} (I : Inv X pins σ H s) (hf : ∀ b ∈ fp, FpOk X pins H b) (ho : ∀ b ∈ fp, ∃ o, s.heap.get? b = some o ∧ ∀ v, o.data ≠ .cell v) : Inv X (pins ++ pinsAt fp s.heap) σ H s :=
  I.pins_of fun p hp => (List.mem_append.mp hp).elim (fun z => I.pin p (List.mem_append_right _ z)) fun z => by
    obtain ⟨hb, e⟩ := of_pinsAt z
    obtain ⟨f0, f1, f2, _⟩ := hf p.1 hb
    obtain ⟨o, e', d⟩ := ho p.1 hb
    rw [e] at e'; cases e'
    exact ⟨e, f0, f1, f2, d⟩
theorem Inv.unpinned {pins pl : List (Addr × Obj)} {σ : St} {H : Hp} {s : Shared} (I : Inv X (pins ++ pl) σ H s) : Inv X pins σ H s := I.pins_of fun p hp => I.pin p (List.mem_append_right _ (List.mem_append_left _ hp))
theorem ps_for {iter : Expr} {body : List Stmt} {wi : TI} {g : TG} {tb : TS} {pos : Pos} (hp : PassesOwn (model X.prog X.w) X.A X.env X.xe) (hc : X.calm = true) (hi : PI X tg iter wi) (hg : PG X tg g) (hb : PSs X body tb)
    (hs : ∀ x, foldedSetIterable iter X.env x = pure x := by intro _; rfl) : PS X (.For tg iter body [] pos) (tFor wi g tb) := by
  intro pins s σ H D I h
  refine wpAny_For (thn (hi pins s σ H _ I h) fun v s1 h1 => thn h1 fun itv s2 h2 => ?_) hs
  obtain ⟨it, fp, tn, J, H2, e, I2, T, st2, f2, W, ⟨m0, w0⟩, turn⟩ := h2
  subst e
  -- what stays true of the iterator's objects through the loop
  have stat : ∀ {H' : Hp}, (∀ b ∈ fp, H' b = none) → ∀ b ∈ fp, FpOk X pins H' b := fun hn b hb => ⟨hn b hb, (f2 b hb).2⟩
  refine codeAny_forLoop_any (fun n s' => ∃ i σ' H', Inv X pins σ' H' s' ∧ tn i s'.heap ∧ (∀ b ∈ fp, H' b = none) ∧ W i n σ' H') ?_ m0 ⟨0, σ, H2, I2, st2, fun b hb => (f2 b hb).1, w0⟩
  rintro n s3 ⟨i, σ3, H3, I3, st3, fr3, w3⟩
  rcases turn i n σ3 H3 w3 with ⟨stop, qn⟩ | ⟨go, N, hN, step⟩
  · refine wpAny_passesOwn hp (thn (T.done X rfl rfl rfl hc i pins s3 σ3 H3 X.xe I3 (stat fr3) st3 stop) fun r s4 ⟨hr, I4⟩ => ?_)
    subst hr
    exact wpAny_execs_nil ⟨σ3, H3, I4, qn⟩
  · refine wpAny_passesOwn hp (thn (T.item X rfl rfl rfl hc i pins s3 σ3 H3 X.xe I3 (stat fr3) st3 go) fun r s4 ⟨u, hr, h4⟩ => ?_)
    subst hr
    refine wpAny_passesOwn hp (thn h4 fun _ s5 ⟨x, H5, I5, r5, y5, st5, fr5⟩ => ?_)
    have I5' := I5.pinned (stat fr5) (T.obj _ _ st5)
    refine wpAny_passesOwn hp (thn (hg _ s5 σ3 H5 x u _ I5' r5 (step x H5 y5)) fun _ s6 ⟨σ6, H6, I6, q6⟩ => ?_)
    refine wpAny_passesOwn hp (thn (hb _ s6 σ6 H6 _ I6 q6) fun f s7 q7 => ?_)
    have again : ∀ {σ7 : St} {H7 : Hp}, Inv X (pins ++ pinsAt fp s5.heap) σ7 H7 s7 → N σ7 H7 → ∃ m, m < n ∧ ∃ i σ' H', Inv X pins σ' H' s7 ∧ tn i s7.heap ∧ (∀ b ∈ fp, H' b = none) ∧ W i m σ' H' := fun {σ7 H7} I7 n7 => by
      obtain ⟨m', hm, w7⟩ := hN σ7 H7 n7
      refine ⟨m', hm, i + 1, σ7, H7, I7.unpinned, T.keep _ _ _ st5 fun b hb o e => (I7.pin (b, o) (List.mem_append_right _ (List.mem_append_right _ (mem_pinsAt hb e)))).1, fun b hb => ?_, w7⟩
      obtain ⟨o, e, d⟩ := T.obj _ _ st5 b hb
      exact (I7.pin (b, o) (List.mem_append_right _ (List.mem_append_right _ (mem_pinsAt hb e)))).2.1
    cases f with
    | next => obtain ⟨σ7, H7, I7, n7⟩ := q7; exact again I7 n7
    | cont => obtain ⟨σ7, H7, I7, n7⟩ := q7; exact again I7 n7
    | brk => obtain ⟨σ7, H7, I7, q7⟩ := q7; exact ⟨σ7, H7, I7.unpinned, q7⟩
    | ret v => obtain ⟨x7, σ7, H7, I7, r7, q7⟩ := q7; exact ⟨x7, σ7, H7, I7.unpinned, r7, q7⟩
end

/-! ### the forms one uses -/
/-- over a list that the body leaves as it is -/
theorem for_list {K : PySem.W.Frag} {a : Addr} {xs : List V} {g : TG} {tb : TS} {D : Ends} {σ : St} {H : Hp} (Pv : Nat → St → Hp → Prop) (h0 : Pv 0 σ H) (hl : ∀ i σ H, i ≤ xs.length → Pv i σ H → SqL K H a xs)
    (hs : ∀ i x σ H, xs[i]? = some x → Pv i σ H → g x σ H fun σ2 H2 => tb { D with nx := Pv (i + 1), ct := Pv (i + 1), bk := D.nx } σ2 H2) (hd : ∀ σ H, Pv xs.length σ H → D.nx σ H) :
    ∃ W : Nat → Nat → St → Hp → Prop, (∃ m, W 0 m σ H) ∧ ∀ i m σ H, W i m σ H →
      ((Itl K a).stop i H ∧ D.nx σ H) ∨ ((Itl K a).go i H ∧ ∃ N : St → Hp → Prop, (∀ σ' H', N σ' H' → ∃ m', m' < m ∧ W (i + 1) m' σ' H') ∧ ∀ x H', (Itl K a).yld i H x H' → g x σ H' fun σ2 H2 => tb { D with nx := N, ct := N, bk := D.nx } σ2 H2) := by
  refine ⟨fun i m σ H => m = xs.length - i ∧ i ≤ xs.length ∧ Pv i σ H, ⟨xs.length, by simp, Nat.zero_le _, h0⟩, ?_⟩
  rintro i m σ H ⟨rfl, hi, p⟩
  have q := hl i σ H hi p
  by_cases hlt : i < xs.length
  · refine .inr ⟨⟨xs, xs[i], q, by simp [hlt]⟩, Pv (i + 1), fun σ' H' p' => ⟨xs.length - (i + 1), by omega, rfl, hlt, p'⟩, fun x H' y => ?_⟩
    obtain ⟨e, y⟩ := y
    subst e
    exact hs i x σ _ (y xs q) p
  · have e : i = xs.length := by omega
    subst e
    exact .inl ⟨⟨xs, q, Nat.le_refl _⟩, hd σ H p⟩
theorem for_range {lo : Int} {n : Nat} {g : TG} {tb : TS} {D : Ends} {σ : St} {H : Hp} (Pv : Nat → St → Hp → Prop) (h0 : Pv 0 σ H)
    (hs : ∀ i σ H, i < n → Pv i σ H → g (.int (lo + i)) σ H fun σ2 H2 => tb { D with nx := Pv (i + 1), ct := Pv (i + 1), bk := D.nx } σ2 H2) (hd : ∀ σ H, Pv n σ H → D.nx σ H) :
    ∃ W : Nat → Nat → St → Hp → Prop, (∃ m, W 0 m σ H) ∧ ∀ i m σ H, W i m σ H →
      ((Itr lo n).stop i H ∧ D.nx σ H) ∨ ((Itr lo n).go i H ∧ ∃ N : St → Hp → Prop, (∀ σ' H', N σ' H' → ∃ m', m' < m ∧ W (i + 1) m' σ' H') ∧ ∀ x H', (Itr lo n).yld i H x H' → g x σ H' fun σ2 H2 => tb { D with nx := N, ct := N, bk := D.nx } σ2 H2) := by
  refine ⟨fun i m σ H => m = n - i ∧ i ≤ n ∧ Pv i σ H, ⟨n, by simp, Nat.zero_le _, h0⟩, ?_⟩
  rintro i m σ H ⟨rfl, hi, p⟩
  by_cases hlt : i < n
  · refine .inr ⟨hlt, Pv (i + 1), fun σ' H' p' => ⟨n - (i + 1), by omega, rfl, hlt, p'⟩, fun x H' y => ?_⟩
    obtain ⟨e, y⟩ := y
    subst e y
    exact hs i σ _ hlt p
  · have e : i = n := by omega
    subst e
    exact .inl ⟨Nat.le_refl _, hd σ H p⟩
end L2

namespace L2
open PySem PySem.Spec PyProof.Rows

abbrev R2 := V → V → Hp → VK → Prop
/-- a two-place operation on values: f is binaryOp op, inplaceOp op or compareOp op -/
def OpR (X : Cx) (f : Value → Value → Sem Value) (r : R2) : Prop :=
  ∀ (pins : List (Addr × Obj)) (s : Shared) (σ : St) (H : Hp) (x y : V) (v u : Value) (Q : VK), Inv X pins σ H s → RelV x v → RelV y u → r x y H Q →
    wpAny (model X.prog X.w) X.A (f v u) (EP X pins σ Q) X.xe s
/-- a one-place operation -/
def UnR (X : Cx) (f : Value → Sem Value) (r : V → Hp → VK → Prop) : Prop :=
  ∀ (pins : List (Addr × Obj)) (s : Shared) (σ : St) (H : Hp) (x : V) (v : Value) (Q : VK), Inv X pins σ H s → RelV x v → r x H Q →
    wpAny (model X.prog X.w) X.A (f v) (EP X pins σ Q) X.xe s
/-- a call of a value that is known (a builtin, a type) with values -/
def CallR (X : Cx) (f : Value) (r : List V → Hp → VK → Prop) : Prop :=
  ∀ (pins : List (Addr × Obj)) (s : Shared) (σ : St) (H : Hp) (xs : List V) (us : List Value) (Q : VK), Inv X pins σ H s → Vals xs us → r xs H Q →
    wpAny (model X.prog X.w) X.A (call f us) (EP X pins σ Q) X.xe s

def tOp (r : R2) (ta tb : TE) : TE := fun σ H Q => ta σ H fun x H1 => tb σ H1 fun y H2 => r x y H2 Q
def tUn (r : V → Hp → VK → Prop) (ta : TE) : TE := fun σ H Q => ta σ H fun x H1 => r x H1 Q
def rI0 (g : Int → Int → V) : R2 := fun x y H Q => ∃ i j, x = .int i ∧ y = .int j ∧ Q (g i j) H
def rU (g : Int → V) : V → Hp → VK → Prop := fun x H Q => ∃ i, x = .int i ∧ Q (g i) H

section
variable {X : Cx} {a b c : Expr} {ta tb tc : TE} {pos : Pos}

theorem binT (ha : PE X a ta) (hb : PE X b tb) {pins : List (Addr × Obj)} {s : Shared} {σ : St} {H : Hp} {R : V → V → Hp → Prop} (I : Inv X pins σ H s)
    (h : ta σ H fun x H1 => tb σ H1 fun y H2 => R x y H2) {Q : Value → Shared → Prop} {f : Value → Value → Sem Value}
    (hf : ∀ v u s2 x y H2, Inv X pins σ H2 s2 → RelV x v → RelV y u → R x y H2 → wpAny (model X.prog X.w) X.A (f v u) Q X.xe s2) :
    wpAny (model X.prog X.w) X.A (eval a X.env) (fun v s₁ => wpAny (model X.prog X.w) X.A (eval b X.env) (fun u s₂ => wpAny (model X.prog X.w) X.A (f v u) Q X.xe s₂) X.xe s₁) X.xe s := by
  refine thn (ha pins s σ H _ I h) fun v s1 ⟨x, H1, I1, r1, q1⟩ => ?_
  refine thn (hb pins s1 σ H1 _ I1 q1) fun u s2 ⟨y, H2, I2, r2, q2⟩ => ?_
  exact hf v u s2 x y H2 I2 r1 r2 q2

theorem pe_op {op : Operator} {r : R2} (ho : OpR X (binaryOp op) r) (ha : PE X a ta) (hb : PE X b tb) : PE X (.BinOp a op b pos) (tOp r ta tb) := by
  intro pins s σ H Q I h
  exact wpAny_BinOp (binT ha hb I h fun v u s2 x y H2 I2 rx ry q => ho pins s2 σ H2 x y v u Q I2 rx ry q)
theorem pe_un {op : UnaryOp} {r : V → Hp → VK → Prop} (ho : UnR X (unaryOp op) r) (ha : PE X a ta) : PE X (.UnaryOp op a pos) (tUn r ta) := by
  intro pins s σ H Q I h
  exact UnaryOp_ (thn (ha pins s σ H _ I h) fun v s1 ⟨x, H1, I1, r1, q1⟩ => ho pins s1 σ H1 x v Q I1 r1 q1)

/-! ### ints -/
theorem opI0 {f : Value → Value → Sem Value} {g : Int → Int → Int}
    (rule : ∀ (i j : Int) (t u : Tok) (s : Shared) (Q : Value → Shared → Prop) (E : Value → Shared → Prop), Q (.int (g i j) s.toks) { s with toks := s.toks + 1 } → wpAny (model X.prog X.w) X.A (f (.int i t) (.int j u)) Q E s) :
    OpR X f (rI0 fun i j => .int (g i j)) := by
  intro pins s σ H x y v u Q I rx ry h
  obtain ⟨i, j, rfl, rfl, q⟩ := h
  obtain ⟨t, rfl⟩ := rx
  obtain ⟨t', rfl⟩ := ry
  exact rule i j t t' s _ _ ⟨.int (g i j), H, I.tok _, ⟨_, rfl⟩, q⟩
theorem opB0 {f : Value → Value → Sem Value} {g : Int → Int → Bool}
    (rule : ∀ (i j : Int) (t u : Tok) (s : Shared) (Q : Value → Shared → Prop) (E : Value → Shared → Prop), Q (.bool (g i j)) s → wpAny (model X.prog X.w) X.A (f (.int i t) (.int j u)) Q E s) :
    OpR X f (rI0 fun i j => .bl (g i j)) := by
  intro pins s σ H x y v u Q I rx ry h
  obtain ⟨i, j, rfl, rfl, q⟩ := h
  obtain ⟨t, rfl⟩ := rx
  obtain ⟨t', rfl⟩ := ry
  exact rule i j t t' s _ _ ⟨.bl (g i j), H, I, rfl, q⟩

theorem op_add : OpR X (binaryOp .Add) (rI0 fun i j => .int (i + j)) := opI0 fun _ _ _ _ _ _ _ q => add_int q
theorem op_sub : OpR X (binaryOp .Sub) (rI0 fun i j => .int (i - j)) := opI0 fun _ _ _ _ _ _ _ q => sub_int q

theorem unI {f : Value → Sem Value} {g : Int → Int}
    (rule : ∀ (i : Int) (t : Tok) (s : Shared) (Q : Value → Shared → Prop) (E : Value → Shared → Prop), Q (.int (g i) s.toks) { s with toks := s.toks + 1 } → wpAny (model X.prog X.w) X.A (f (.int i t)) Q E s) :
    UnR X f (rU fun i => .int (g i)) := by
  intro pins s σ H x v Q I rx h
  obtain ⟨i, rfl, q⟩ := h
  obtain ⟨t, rfl⟩ := rx
  exact rule i t s _ _ ⟨.int (g i), H, I.tok _, ⟨_, rfl⟩, q⟩
theorem un_neg : UnR X (unaryOp .USub) (rU fun i => .int (-i)) := unI fun _ _ _ _ _ q => neg_int q

/-! ### bools among ints: n += (a < b) -/
end

/-! ### comparisons -/
/-- the scalars that == tells apart as data does -/
def scal : V → V → Bool
  | .non, .non => true | .non, .int _ => true | .int _, .non => true | .non, .bl _ => true | .bl _, .non => true | .non, .str _ => true | .str _, .non => true
  | .int _, .int _ => true | .bl _, .bl _ => true | .str _, .str _ => true | .byt _, .byt _ => true
  | .int _, .str _ => true | .str _, .int _ => true | .bl _, .str _ => true | .str _, .bl _ => true
  | _, _ => false
def rEq : R2 := fun x y H Q => scal x y = true ∧ Q (.bl (decide (x = y))) H
def rNe : R2 := fun x y H Q => scal x y = true ∧ Q (.bl (!decide (x = y))) H

theorem dec_int {i j : Int} : decide (V.int i = V.int j) = (i == j) := by
  rw [Bool.eq_iff_iff]
  simp
theorem dec_bl {i j : Bool} : decide (V.bl i = V.bl j) = (i == j) := by
  rw [Bool.eq_iff_iff]
  simp
theorem dec_str {i j : Str} : decide (V.str i = V.str j) = (i == j) := by
  rw [Bool.eq_iff_iff]
  simp
theorem dec_byt {i j : Array UInt8} : decide (V.byt i = V.byt j) = (i.toList == j.toList) := by
  rw [Bool.eq_iff_iff]
  cases i
  cases j
  simp

section
variable {X : Cx} {a b c : Expr} {ta tb tc : TE} {pos : Pos}
theorem fin_bl {pins : List (Addr × Obj)} {σ : St} {H : Hp} {s : Shared} {Q : VK} {k k' : Bool} (I : Inv X pins σ H s) (q : Q (.bl k) H) (e : k = k') : EP X pins σ Q (.bool k') s := by
  subst e
  exact ⟨.bl k, H, I, rfl, q⟩
theorem op_eq : OpR X (compareOp .Eq) rEq := by
  intro pins s σ H x y v u Q I rx ry h
  obtain ⟨hs, q⟩ := h
  cases x with
  | non =>
    cases rx
    cases y with
    | non => cases ry; exact PySem.EqNone.eq_none_none (fin_bl I q (by simp))
    | bl j => cases ry; exact PySem.EqNone.eq_none_bool (fin_bl I q (by simp))
    | int j => obtain ⟨t', rfl⟩ := ry; exact PySem.EqNone.eq_none_int (fin_bl I q (by simp))
    | str j => obtain ⟨t', rfl⟩ := ry; exact PySem.EqNone.eq_none_str (fin_bl I q (by simp))
    | _ => exact absurd (show false = true from hs) Bool.false_ne_true
  | bl i =>
    cases rx
    cases y with
    | non => cases ry; exact PySem.EqNone.eq_bool_none (fin_bl I q (by simp))
    | bl j => cases ry; exact eq_bool (fin_bl I q dec_bl)
    | str j => obtain ⟨t', rfl⟩ := ry; exact PySem.EqMixed.eq_bool_str (fin_bl I q (by simp))
    | _ => exact absurd (show false = true from hs) Bool.false_ne_true
  | int i =>
    obtain ⟨t, rfl⟩ := rx
    cases y with
    | non => cases ry; exact PySem.EqNone.eq_int_none (fin_bl I q (by simp))
    | int j => obtain ⟨t', rfl⟩ := ry; exact eq_int (fin_bl I q dec_int)
    | str j => obtain ⟨t', rfl⟩ := ry; exact PySem.EqMixed.eq_int_str (fin_bl I q (by simp))
    | _ => exact absurd (show false = true from hs) Bool.false_ne_true
  | str i =>
    obtain ⟨t, rfl⟩ := rx
    cases y with
    | non => cases ry; exact PySem.EqNone.eq_str_none (fin_bl I q (by simp))
    | bl j => cases ry; exact PySem.EqMixed.eq_str_bool (fin_bl I q (by simp))
    | int j => obtain ⟨t', rfl⟩ := ry; exact PySem.EqMixed.eq_str_int (fin_bl I q (by simp))
    | str j => obtain ⟨t', rfl⟩ := ry; exact eq_str (fin_bl I q dec_str)
    | _ => exact absurd (show false = true from hs) Bool.false_ne_true
  | byt i =>
    obtain ⟨t, rfl⟩ := rx
    cases y with
    | byt j => obtain ⟨t', rfl⟩ := ry; exact PySem.W.eq_bytes (fin_bl I q dec_byt)
    | _ => exact absurd (show false = true from hs) Bool.false_ne_true
  | _ => cases y <;> exact absurd (show false = true from hs) Bool.false_ne_true
theorem op_ne : OpR X (compareOp .NotEq) rNe := by
  intro pins s σ H x y v u Q I rx ry h
  obtain ⟨hs, q⟩ := h
  cases x with
  | non =>
    cases rx
    cases y with
    | non => cases ry; exact PySem.EqNone.ne_none_none (fin_bl I q (by simp))
    | bl j => cases ry; exact PySem.EqNone.ne_none_bool (fin_bl I q (by simp))
    | int j => obtain ⟨t', rfl⟩ := ry; exact PySem.EqNone.ne_none_int (fin_bl I q (by simp))
    | str j => obtain ⟨t', rfl⟩ := ry; exact PySem.EqNone.ne_none_str (fin_bl I q (by simp))
    | _ => exact absurd (show false = true from hs) Bool.false_ne_true
  | bl i =>
    cases rx
    cases y with
    | non => cases ry; exact PySem.EqNone.ne_bool_none (fin_bl I q (by simp))
    | bl j => cases ry; exact ne_bool (fin_bl I q (congrArg not dec_bl))
    | str j => obtain ⟨t', rfl⟩ := ry; exact PySem.EqMixed.ne_bool_str (fin_bl I q (by simp))
    | _ => exact absurd (show false = true from hs) Bool.false_ne_true
  | int i =>
    obtain ⟨t, rfl⟩ := rx
    cases y with
    | non => cases ry; exact PySem.EqNone.ne_int_none (fin_bl I q (by simp))
    | int j => obtain ⟨t', rfl⟩ := ry; exact ne_int (fin_bl I q (congrArg not dec_int))
    | str j => obtain ⟨t', rfl⟩ := ry; exact PySem.EqMixed.ne_int_str (fin_bl I q (by simp))
    | _ => exact absurd (show false = true from hs) Bool.false_ne_true
  | str i =>
    obtain ⟨t, rfl⟩ := rx
    cases y with
    | non => cases ry; exact PySem.EqNone.ne_str_none (fin_bl I q (by simp))
    | bl j => cases ry; exact PySem.EqMixed.ne_str_bool (fin_bl I q (by simp))
    | int j => obtain ⟨t', rfl⟩ := ry; exact PySem.EqMixed.ne_str_int (fin_bl I q (by simp))
    | str j => obtain ⟨t', rfl⟩ := ry; exact ne_str (fin_bl I q (congrArg not dec_str))
    | _ => exact absurd (show false = true from hs) Bool.false_ne_true
  | byt i =>
    obtain ⟨t, rfl⟩ := rx
    cases y with
    | byt j => obtain ⟨t', rfl⟩ := ry; exact PySem.W.ne_bytes (fin_bl I q (congrArg not dec_byt))
    | _ => exact absurd (show false = true from hs) Bool.false_ne_true
  | _ => cases y <;> exact absurd (show false = true from hs) Bool.false_ne_true

theorem op_lt : OpR X (compareOp .Lt) (rI0 fun i j => .bl (decide (i < j))) := opB0 fun _ _ _ _ _ _ _ q => lt_int q
theorem op_gt : OpR X (compareOp .Gt) (rI0 fun i j => .bl (decide (j < i))) := opB0 fun _ _ _ _ _ _ _ q => gt_int q
theorem op_ge : OpR X (compareOp .GtE) (rI0 fun i j => .bl (decide (j ≤ i))) := opB0 fun _ _ _ _ _ _ _ q => ge_int q

theorem nomark (b : Expr) {op : CmpOp} (h : op ≠ .In := by decide) (h2 : op ≠ .NotIn := by decide) : behindInMarks op b = false := by
  have e1 : (op == CmpOp.In) = false := by cases op <;> first | rfl | exact absurd rfl h
  have e2 : (op == CmpOp.NotIn) = false := by cases op <;> first | rfl | exact absurd rfl h2
  cases b <;> simp [behindInMarks, e1, e2]
/-- a comparison as a value; hm: nomark b, or (for in, not in) by with_unfolding_all rfl -/
theorem pe_cmpR {op : CmpOp} {r : R2} (ho : OpR X (compareOp op) r) (ha : PE X a ta) (hb : PE X b tb) (hm : behindInMarks op b = false) : PE X (.Compare a [op] [b] pos) (tOp r ta tb) := by
  intro pins s σ H Q I h
  exact wpAny_Compare1 (binT ha hb I h fun v u s2 x y H2 I2 rx ry q => ho pins s2 σ H2 x y v u Q I2 rx ry q) hm
/-- a reading of a value as a test -/
def tTest (t : TE) : TT := fun σ H Q => t σ H fun x H' => ∃ k, x = .bl k ∧ Q k H'
theorem pt_cmpR {op : CmpOp} {r : R2} (ho : OpR X (compareOp op) r) (ha : PE X a ta) (hb : PE X b tb) (hm : behindInMarks op b = false) : PT X (.Compare a [op] [b] pos) (tTest (tOp r ta tb)) := by
  intro pins s σ H Q I h
  refine wpAny_isTrue_Compare1 (thn (ha pins s σ H _ I h) fun v s1 ⟨x, H1, I1, r1, q1⟩ => thn (hb pins s1 σ H1 _ I1 q1) fun u s2 ⟨y, H2, I2, r2, q2⟩ =>
    thn (ho pins s2 σ H2 x y v u _ I2 r1 r2 q2) fun c s3 ⟨z, H3, I3, r3, k, e, q3⟩ => ?_) hm
  subst e
  cases r3
  exact wpAny_truthy_bool ⟨H3, I3, q3⟩

/-! ### truth -/
theorem line63 : (sizeLine : Nat) < 2 ^ 63 := by rw [sizeLine_eq]; decide

/-! ### strs and bytes -/

/-! ### scalar builtins, by CallR -/
theorem vals1 {x : V} {us : List Value} (r : Vals [x] us) : ∃ u, us = [u] ∧ RelV x u := by
  cases r with
  | cons r1 r2 => cases r2; exact ⟨_, rfl, r1⟩
theorem vals2 {x y : V} {us : List Value} (r : Vals [x, y] us) : ∃ u w', us = [u, w'] ∧ RelV x u ∧ RelV y w' := by
  cases r with
  | cons r1 r2 =>
    cases r2 with
    | cons r3 r4 => cases r4; exact ⟨_, _, rfl, r1, r3⟩
theorem call_abs : CallR X (.builtin "abs") (fun xs H Q => ∃ i, xs = [.int i] ∧ Q (.int (if i < 0 then -i else i)) H) := by
  intro pins s σ H xs us Q I r h
  obtain ⟨i, rfl, q⟩ := h
  obtain ⟨u, rfl, t, rfl⟩ := vals1 r
  exact call_abs_int fun u tk => ⟨.int (if i < 0 then -i else i), H, I.tok _, ⟨_, rfl⟩, q⟩
theorem call_max2 (hc : X.calm = true) : CallR X (.builtin "max") (fun xs H Q => ∃ i j, xs = [.int i, .int j] ∧ Q (.int (if j > i then j else i)) H) := by
  intro pins s σ H xs us Q I r h
  obtain ⟨i, j, rfl, q⟩ := h
  obtain ⟨u, w', rfl, ⟨t, rfl⟩, ⟨t', rfl⟩⟩ := vals2 r
  refine max_two_ints (I.ok.hd hc) fun h' tk k => ⟨_, H, I.kept k, ?_, q⟩
  by_cases hj : j > i
  · rw [if_pos hj, if_pos hj]; exact ⟨_, rfl⟩
  · rw [if_neg hj, if_neg hj]; exact ⟨_, rfl⟩
theorem call_min2 (hc : X.calm = true) : CallR X (.builtin "min") (fun xs H Q => ∃ i j, xs = [.int i, .int j] ∧ Q (.int (if j < i then j else i)) H) := by
  intro pins s σ H xs us Q I r h
  obtain ⟨i, j, rfl, q⟩ := h
  obtain ⟨u, w', rfl, ⟨t, rfl⟩, ⟨t', rfl⟩⟩ := vals2 r
  refine min_two_ints (I.ok.hd hc) fun h' tk k => ⟨_, H, I.kept k, ?_, q⟩
  by_cases hj : j < i
  · rw [if_pos hj, if_pos hj]; exact ⟨_, rfl⟩
  · rw [if_neg hj, if_neg hj]; exact ⟨_, rfl⟩
end
end L2

namespace L2
open PySem PySem.Spec PyProof.Rows

/-! ### an instance, its attributes a map -/
structure ObjM (h : Heap) (x dx C : Addr) (mA : Str → Option Value) : Prop where
  obj : h.get? x = some (PySem.W.instObj C dx)
  ns : h.Ns1 dx mA
  ne : dx ≠ x

theorem lookIn_ns {h : Heap} {dx : Addr} {mA : Str → Option Value} (n : h.Ns1 dx mA) : ∃ od, h.get? dx = some od ∧ ∀ name, PySem.W.lookIn name od = some (mA name) := by
  obtain ⟨o, es, ep, ho, hd, hk, _, hm⟩ := n
  refine ⟨o, ho, fun name => ?_⟩
  have e := hm name
  unfold nsFind findBy at e
  rw [← Array.find?_toList] at e
  unfold PySem.W.lookIn
  rw [hd]
  dsimp only
  split
  · rename_i y q
    rw [q] at e
    exact congrArg some e
  · rename_i q
    rw [q] at e
    have a : es.toList.any (·.refKey) = false := by
      rw [List.any_eq_false]
      intro y hy
      obtain ⟨z, t, hkey⟩ := hk y (Array.mem_toList_iff.mp hy)
      simp [DictEntry.refKey, hkey]
    have a' : ¬ es.toList.any (·.refKey) = true := by rw [a]; exact Bool.false_ne_true
    rw [if_neg a']
    exact congrArg some e

theorem ObjM.look {h : Heap} {x dx C : Addr} {mA : Str → Option Value} (I : ObjM h x dx C mA) : ∃ od, PySem.W.InstAt h x (PySem.W.instObj C dx) C (some od) ∧ ∀ name, PySem.W.lookIn name od = some (mA name) :=
  let ⟨od, ho, hl⟩ := lookIn_ns I.ns
  ⟨od, ⟨I.obj, rfl, rfl, ho⟩, hl⟩

section
variable {prog : Program} {w : World} {A : Around} {E : Value → Shared → Prop} {s : Shared} {K : PySem.W.Frag} {x dx C f : Addr} {mA : Str → Option Value} {name : Str} {v : Value}

theorem get_map {expr : Bool} {Q : Value → Shared → Prop} (X : K.In s.heap) (I : ObjM s.heap x dx C mA) (hg : PySem.W.plainGet K C name = true) (hh : PySem.W.hasDictIn K C = true)
    (ha : PySem.W.findIn K (.ref C) name = some none) (hv : mA name = some v) (hv' : PySem.W.handedIn v = true) (h : Q v { s with toks := s.toks + 1 }) :
    wpAny (model prog w) A (getAttr (.ref x) name expr) Q E s := by
  obtain ⟨od, J, hl⟩ := I.look
  exact PySem.W.get_value X J (PySem.W.plainGet_of hg).1 (PySem.W.findObj_own hh ha rfl (by rw [hl, hv])) hv' h

theorem get_meth {pl : Sem Bool} {Q : Value × List Value → Shared → Prop} (X : K.In s.heap) (I : ObjM s.heap x dx C mA) (hg : PySem.W.plainGet K C name = true)
    (hf : PySem.W.findIn K (.ref C) name = some (some (.ref f))) (ht : PySem.W.isFn K (.ref f) = true) (hv : mA name = none) (h : Q (.ref f, [.ref x]) s) :
    wpAny (model prog w) A (getMethod (.ref x) name pl) Q E s := by
  obtain ⟨od, J, hl⟩ := I.look
  exact PySem.W.method_fn X J (PySem.W.plainGet_of hg).1 (PySem.W.plainGet_of hg).2 hf (beq_iff_eq.mp ht) (by show (PySem.W.lookIn name od).map (·.isSome) = some false; rw [hl, hv]; rfl) h

theorem set_map {ns : List Str} {Q : Unit → Shared → Prop} (X : K.In s.heap) (I : ObjM s.heap x dx C mA)
    (hs : PySem.W.findIn K (.ref C) "__setattr__" = some (some (.builtin "object.__setattr__"))) (hp : PySem.W.plainOver K C = true) (ht : PySem.W.takerIn K C name = some none) (hh : PySem.W.hasDictIn K C = true)
    (hw : PySem.Within mA ns) (hsz : ns.length ≤ sizeLine)
    (h : ∀ h', ObjM h' x dx C (fun y => if y = name then some v else mA y) → Heap.SameBut dx s.heap h' → Q () { s with heap := h', toks := s.toks + 2 }) :
    wpAny (model prog w) A (setAttr (.ref x) name v) Q E s := by
  obtain ⟨od, J, hl⟩ := I.look
  refine PySem.W.set_plain X J hs (PySem.W.osa_open (s := { s with toks := s.toks + 1 }) (r := none) X J hp ht fun b => ?_)
  obtain ⟨cd, hc, hd'⟩ := PySem.W.any_some hh
  have hx : s.heap.get? x = some ⟨.ref C, some dx, .plain, #[]⟩ := I.obj
  refine wpAny_bind (wpAny_pure (wpAny_bind (wpAny_bind (wpAny_loadPart hx (wpAny_bind (PySem.W.Looks.here (s := { s with toks := s.toks + 1 }) (PySem.W.looks_clsIn X hc) ?_))))))
  rw [hd']
  refine wpAny_pure (a := some dx) (wpAny_bind (wpAny_pure (wpAny_bind ?_)))
  refine wpAny_nsSet1 (s := { s with toks := s.toks + 1 }) I.ns fun h' hn2 hs2 => ?_
  obtain ⟨oD, esD, epD, hoD, hdD, hcD⟩ := hn2.count (PySem.Within.cons name v hw)
  refine wpAny_bind (wpAny_lookBehind hoD (by rw [hdD]; exact pastItsLine_dict (Nat.le_trans hcD (by rw [List.length_cons]; omega))) ?_)
  exact wpAny_pure (h _ ⟨(hs2.2 _ (Ne.symm I.ne)).trans I.obj, hn2, I.ne⟩ hs2)

/-- C(..): the dict at the heap's end, the instance behind it; then its __init__ -/
theorem make_map {R : Result → Shared → Prop} {vs : List Value} {kw : List (Str × Value)} (X : K.In s.heap) (hm : PySem.W.makesIn K C = true)
    (hi : PySem.W.findIn K (.ref C) "__init__" = some (some (.ref f))) (hf : PySem.W.typeIn K (.ref f) = some (.type "function"))
    (h : codeAny (model prog w) (A.under (.builtin "type.__call__" ⟨.ref C :: vs, kw⟩)) (.call (.ref f) ⟨.ref (s.heap.objs.size + 1) :: vs, kw⟩) (PySem.W.InitBack (s.heap.objs.size + 1) R)
      { s with heap := (s.heap.push PySem.W.emptyDict).push (PySem.W.instObj C s.heap.objs.size) }) :
    codeAny (model prog w) A (.call (.ref C) ⟨vs, kw⟩) R s := by
  obtain ⟨hh, g, d, t, os⟩ := s
  exact PySem.W.make_core (PySem.W.makes_of X hm) (PySem.W.looks_findIn X hi) (fun self => PySem.W.bind_fn X self hf) (.inl rfl) h
end

/-! ### the attributes as a list of pairs -/
def putF (f : Str) (v : V) : List (Str × V) → List (Str × V)
  | [] => [(f, v)]
  | (g, x) :: r => if g = f then (g, v) :: r else (g, x) :: putF f v r
theorem lookup_putF (f g : Str) (v : V) : ∀ fs : List (Str × V), (putF f v fs).lookup g = if g = f then some v else fs.lookup g
  | [] => by
    show List.lookup g [(f, v)] = _
    by_cases h : g = f
    · have hb : (g == f) = true := beq_iff_eq.mpr h
      simp only [List.lookup, hb, if_pos h]
    · have hb : (g == f) = false := beq_eq_false_iff_ne.mpr h
      simp only [List.lookup, hb, if_neg h]
  | (k, x) :: r => by
    have ih := lookup_putF f g v r
    rw [show putF f v ((k, x) :: r) = (if k = f then (k, v) :: r else (k, x) :: putF f v r) from rfl]
    by_cases hk : k = f
    · rw [if_pos hk]
      by_cases h : g = k
      · have hb : (g == k) = true := beq_iff_eq.mpr h
        simp only [List.lookup, hb, if_pos (h.trans hk)]
      · have hb : (g == k) = false := beq_eq_false_iff_ne.mpr h
        simp only [List.lookup, hb, if_neg (fun e : g = f => h (e.trans hk.symm))]
    · rw [if_neg hk]
      by_cases h : g = k
      · have hb : (g == k) = true := beq_iff_eq.mpr h
        simp only [List.lookup, hb, if_neg (fun e : g = f => hk (h.symm.trans e))]
      · have hb : (g == k) = false := beq_eq_false_iff_ne.mpr h
        simp only [List.lookup, hb]
        exact ih
theorem keys_putF (f : Str) (v : V) : ∀ fs : List (Str × V), f ∈ (putF f v fs).map (·.1) ∧ ∀ g, g ∈ fs.map (·.1) → g ∈ (putF f v fs).map (·.1)
  | [] => ⟨by simp [putF], fun g h => by simp at h⟩
  | (k, x) :: r => by
    obtain ⟨i1, i2⟩ := keys_putF f v r
    rw [show putF f v ((k, x) :: r) = (if k = f then (k, v) :: r else (k, x) :: putF f v r) from rfl]
    by_cases hk : k = f
    · rw [if_pos hk]
      subst hk
      exact ⟨by simp, fun g h => by simpa using h⟩
    · rw [if_neg hk]
      refine ⟨?_, fun g h => ?_⟩
      · rw [List.map_cons]
        exact List.mem_cons_of_mem _ i1
      · rw [List.map_cons] at h ⊢
        rcases List.mem_cons.mp h with e | e
        · exact List.mem_cons.mpr (.inl e)
        · exact List.mem_cons_of_mem _ (i2 g e)
theorem length_putF (f : Str) (v : V) : ∀ fs : List (Str × V), (putF f v fs).length ≤ fs.length + 1
  | [] => by simp [putF]
  | (k, x) :: r => by
    have ih := length_putF f v r
    rw [show putF f v ((k, x) :: r) = (if k = f then (k, v) :: r else (k, x) :: putF f v r) from rfl]
    by_cases hk : k = f
    · rw [if_pos hk, List.length_cons, List.length_cons]; omega
    · rw [if_neg hk, List.length_cons, List.length_cons]; omega

theorem RelO.some_of {v : V} {o : Option Value} (r : RelO (some v) o) : ∃ u, o = some u ∧ RelV v u := by
  cases o with
  | none => exact (show False from r).elim
  | some u => exact ⟨u, rfl, r⟩
theorem RelO.none_of {o : Option Value} (r : RelO none o) : o = none := by
  cases o with
  | none => rfl
  | some u => exact (show False from r).elim
theorem handed_of {v : V} {u : Value} (r : RelV v u) : PySem.W.handedIn u = true := by
  cases v with
  | non => cases (show u = Value.none from r); rfl
  | bl b => cases (show u = Value.bool b from r); rfl
  | int i => obtain ⟨t, e⟩ := (show ∃ t, u = Value.int i t from r); cases e; rfl
  | str x => obtain ⟨t, e⟩ := (show ∃ t, u = Value.str x t from r); cases e; rfl
  | byt b => obtain ⟨t, e⟩ := (show ∃ t, u = Value.bytes b t from r); cases e; rfl
  | flt b => obtain ⟨t, e⟩ := (show ∃ t, u = Value.float b t from r); cases e; rfl
  | ref a => cases (show u = Value.ref a from r); rfl
  | ty n => cases (show u = Value.type n from r); rfl

section
variable {P : Program} {w : World} {H H' : Hp} {h h' : Heap} {a C dx : Addr} {fs fs' : List (Str × V)}
theorem ins_get (hok : HOk P w H h) (e : H a = some (.ins C dx fs)) : ∃ mA, ObjM h a dx C mA ∧ (∀ f, RelO (fs.lookup f) (mA f)) ∧ PySem.Within mA (fs.map (·.1)) ∧ fs.length ≤ 1000 ∧ H dx = some (.own a) := by
  obtain ⟨d, z, ne, ob, mA, n, r, q⟩ := (show ObjOk P w H h a (.ins C dx fs) from hok a _ e)
  exact ⟨mA, ⟨ob, n, ne⟩, r, q, z, d⟩
end

/-! ### what of the text a class must have -/
structure Cls (K : PySem.W.Frag) (C : Addr) : Prop where
  pg : PySem.W.plainGet K C Str.empty = true
  hd : PySem.W.hasDictIn K C = true
  po : PySem.W.plainOver K C = true
  sa : PySem.W.findIn K (.ref C) "__setattr__" = some (some (.builtin "object.__setattr__"))
theorem Cls.get {K : PySem.W.Frag} {C : Addr} (c : Cls K C) (f : Str) : PySem.W.plainGet K C f = true := c.pg
/-- no class of it has the name -/
def NoAttr (K : PySem.W.Frag) (C : Addr) (f : Str) : Prop := PySem.W.findIn K (.ref C) f = some none
theorem NoAttr.taker {K : PySem.W.Frag} {C : Addr} {f : Str} (n : NoAttr K C f) : PySem.W.takerIn K C f = some none := by
  unfold PySem.W.takerIn
  rw [show PySem.W.findIn K (.ref C) f = some none from n]
  rfl
/-- a method: a plain def of the class or of one above it -/
structure Meth (K : PySem.W.Frag) (C : Addr) (m : Str) (f : Addr) : Prop where
  at_ : PySem.W.findIn K (.ref C) m = some (some (.ref f))
  fn : PySem.W.isFn K (.ref f) = true
  kp : PySem.W.keepIn K (.ref f) = true

section
variable {X : Cx} {pins : List (Addr × Obj)} {σ : St} {H : Hp} {s : Shared} {a C dx : Addr} {fs : List (Str × V)} {f : Str} {v : V} {A : Around} {E : Value → Shared → Prop}

theorem getattr_ok {b : Bool} {Q : Value → Shared → Prop} (I : Inv X pins σ H s) (e : H a = some (.ins C dx fs)) (c : Cls X.K C) (n : NoAttr X.K C f) (l : fs.lookup f = some v)
    (h : ∀ u s', Inv X pins σ H s' → RelV v u → Q u s') : wpAny (model X.prog X.w) A (getAttr (.ref a) f b) Q E s := by
  obtain ⟨mA, O, r, _, _, _⟩ := ins_get I.hok e
  obtain ⟨u, hu, ru⟩ := RelO.some_of (v := v) (o := mA f) (by rw [← l]; exact r f)
  exact get_map I.kIn O (c.get f) c.hd n hu (handed_of ru) (h u _ (I.tok _) ru)

theorem getmeth_ok {m : Str} {g : Addr} {pl : Sem Bool} {Q : Value × List Value → Shared → Prop} (I : Inv X pins σ H s) (e : H a = some (.ins C dx fs)) (c : Cls X.K C) (k : Meth X.K C m g) (l : fs.lookup m = none)
    (h : Q (.ref g, [.ref a]) s) : wpAny (model X.prog X.w) A (getMethod (.ref a) m pl) Q E s := by
  obtain ⟨mA, O, r, _, _, _⟩ := ins_get I.hok e
  have hn : mA m = none := RelO.none_of (by rw [← l]; exact r m)
  exact get_meth I.kIn O (c.get m) k.at_ k.fn hn h

theorem setattr_ok {y : V} {u : Value} {Q : Unit → Shared → Prop} (I : Inv X pins σ H s) (e : H a = some (.ins C dx fs)) (c : Cls X.K C) (n : NoAttr X.K C f) (hl : fs.length < 1000) (ry : RelV y u)
    (h : ∀ s', Inv X pins σ (upd H a (.ins C dx (putF f y fs))) s' → Q () s') : wpAny (model X.prog X.w) A (setAttr (.ref a) f u) Q E s := by
  obtain ⟨mA, O, r, wi, _, ho⟩ := ins_get I.hok e
  have hz : (fs.map (·.1)).length ≤ sizeLine := by rw [List.length_map, sizeLine_eq]; omega
  refine set_map I.kIn O c.sa c.po n.taker c.hd wi hz fun h' O' sb => h _ ?_
  have hd : ∃ o, h'.get? dx = some o := let ⟨o, _, _, e', _⟩ := O'.ns; ⟨o, e'⟩
  refine I.write (x := a) (e := dx) (by rw [e]; exact True.intro) (.inr ho) (fun b q hb z => (sb.2 b hb).trans z) hd ?_
  refine ⟨by rw [upd_ne O.ne]; exact ho, ?_, O.ne, O'.obj, _, O'.ns, fun g => ?_, fun g hg => ?_⟩
  · have := length_putF f y fs; omega
  · show RelO ((putF f y fs).lookup g) (if g = f then some u else mA g)
    rw [lookup_putF]
    by_cases q : g = f
    · rw [if_pos q, if_pos q]; exact ry
    · rw [if_neg q, if_neg q]; exact r g
  · by_cases q : g = f
    · rw [q]; exact (keys_putF f y fs).1
    · refine (keys_putF f y fs).2 g (wi g fun z => hg ?_)
      show (if g = f then some u else mA g) = none
      rw [if_neg q]; exact z

/-- a new instance, tracked, without attributes -/
theorem Inv.made (I : Inv X pins σ H s) : Inv X pins σ (upd (upd H s.heap.objs.size (.own (s.heap.objs.size + 1))) (s.heap.objs.size + 1) (.ins C s.heap.objs.size []))
    { s with heap := (s.heap.push PySem.W.emptyDict).push (PySem.W.instObj C s.heap.objs.size) } := by
  have e1 : (s.heap.push PySem.W.emptyDict).get? s.heap.objs.size = some PySem.W.emptyDict := Heap.get?_push_size s.heap rfl
  have e2 : ((s.heap.push PySem.W.emptyDict).push (PySem.W.instObj C s.heap.objs.size)).get? (s.heap.objs.size + 1) = some (PySem.W.instObj C s.heap.objs.size) := by
    have := Heap.get?_push_size (s.heap.push PySem.W.emptyDict) (o := PySem.W.instObj C s.heap.objs.size) rfl
    rwa [Heap.size_push] at this
  have e3 : (s.heap.push PySem.W.emptyDict).Ns s.heap.objs.size (fun _ => none) := ⟨PySem.W.emptyDict, #[], _, e1, rfl, (fun e he => absurd he (by simp)), fun _ => rfl⟩
  have I1 := I.laid (a := s.heap.objs.size) (o := .own (s.heap.objs.size + 1)) (h' := s.heap.push PySem.W.emptyDict) (t' := s.toks) (fun b u q => Heap.get?_push_of_some _ q) (Nat.le_refl _) ⟨_, e1⟩
  refine I1.laid (a := s.heap.objs.size + 1) (o := .ins C s.heap.objs.size []) (t' := s.toks) (fun b u q => Heap.get?_push_of_some _ q) (Nat.le_of_eq (Heap.size_push _ _)) ?_
  have ne : s.heap.objs.size ≠ s.heap.objs.size + 1 := Nat.ne_of_lt (Nat.lt_succ_self _)
  refine ⟨by rw [upd_ne ne, upd_same], Nat.zero_le _, ne, e2, fun _ => none, (Heap.Ns1.of_empty e3).at fun o q => Heap.get?_push_of_some _ q, fun _ => True.intro, fun y hy => absurd rfl hy⟩

/-- e.f where nothing but the object is asked: through attributeBase (super) and the last hold -/
theorem attr_of {prog : Program} {w : World} {env : Env} {e : Expr} {f : Str} {pos : Pos} {s : Shared} {Q : Value → Shared → Prop} (hb : attributeBase e f env (eval e env) = eval e env)
    (h : wpAny (model prog w) A (eval e env) (fun o s₁ => wpAny (model prog w) A (getAttr o f true) Q E s₁) E s) : wpAny (model prog w) A (eval (.Attribute e f pos) env) Q E s :=
  Attribute_any_ h (by rw [arm_eval_Attribute, hb])
end

/-! ### readings and rules -/
/-- e.f, an attribute of the instance -/
def tFld (K : PySem.W.Frag) (ta : TE) (f : Str) : TE := fun σ H Q => ta σ H fun x H1 => ∃ a C dx fs v, x = .ref a ∧ H1 a = some (.ins C dx fs) ∧ Cls K C ∧ NoAttr K C f ∧ fs.lookup f = some v ∧ Q v H1
/-- e.f = value -/
def sFld (K : PySem.W.Frag) (ta tv : TE) (f : Str) : TS := fun D σ H => tv σ H fun y H1 => ta σ H1 fun x H2 => ∃ a C dx fs, x = .ref a ∧ H2 a = some (.ins C dx fs) ∧ Cls K C ∧ NoAttr K C f ∧ fs.length < 1000 ∧
  D.nx σ (upd H2 a (.ins C dx (putF f y fs)))

section
variable {X : Cx} {o e value : Expr} {f : Str} {pos pos' tpos : Pos} {ta tv : TE}
theorem pe_fld (he : PE X e ta) (hb : attributeBase e f X.env (eval e X.env) = eval e X.env) : PE X (.Attribute e f pos) (tFld X.K ta f) := by
  intro pins s σ H Q I h
  refine attr_of hb (thn (he pins s σ H _ I h) fun u s1 ⟨x, H1, I1, rx, a, C, dx, fs, v, ex, ea, c, n, l, q⟩ => ?_)
  subst ex
  obtain rfl : u = Value.ref a := rx
  exact getattr_ok I1 ea c n l fun u' s2 I2 ru => ⟨v, H1, I2, ru, q⟩
theorem ps_fld (ha : PE X o ta) (hv : PE X value tv) (hs : swapsWith value (some (.Attribute o f pos')) pos.line X.env = pure false) : PS X (.Assign [.Attribute o f pos'] value pos) (sFld X.K ta tv f) := by
  intro pins s σ H D I h
  refine plainObj_wpAny_Assign_Attribute (thn (hv pins s σ H _ I h) fun u s1 ⟨y, H1, I1, ry, q⟩ => thn (ha pins s1 σ H1 _ I1 q) fun ov s2 ⟨x, H2, I2, rx, a, C, dx, fs, ex, ea, c, n, l, q2⟩ => ?_) hs
  subst ex
  obtain rfl : ov = Value.ref a := rx
  exact setattr_ok I2 ea c n l ry fun s3 I3 => ⟨σ, _, I3, q2⟩

end

/-! ### isinstance -/
section
variable {X : Cx} {pins : List (Addr × Obj)} {σ : St} {H : Hp} {s : Shared} {A : Around} {E : Value → Shared → Prop} {Q : Value → Shared → Prop} {c : Value} {b : Bool}
end
end L2

namespace L2
open PySem PySem.Spec PyProof.Rows

/-! ### room -/
structure Room (k : Nat) (A : Around) : Prop where
  hd : A.handled = none
  dp : A.depth + 3 * k + 5 < recursionLimit
  un : A.units + 16 * k + 200 < cLine
theorem Room.mono {j k : Nat} {A : Around} (r : Room k A) (h : j ≤ k) : Room j A := ⟨r.hd, by have := r.dp; omega, by have := r.un; omega⟩
theorem Room.deeper {k : Nat} {A : Around} (r : Room (k + 1) A) (env : Env) : Room k (A.deeper env) :=
  ⟨r.hd, by have := r.dp; show A.depth + 1 + 3 * k + 5 < _; omega, by have := r.un; show A.units + 3 + 16 * k + 200 < _; omega⟩
theorem make_depth {A : Around} {C : Addr} {us : List Value} {kw : List (Str × Value)} : (A.under (.builtin "type.__call__" ⟨.ref C :: us, kw⟩)).depth = A.depth + 1 := by
  first | rfl | simp [Around.under, Code.weight, Code.isCreation, Code.isGuard, Code.isCaller, Code.frames, Code.isFrame, guardIds]
theorem make_units {A : Around} {C : Addr} {us : List Value} {kw : List (Str × Value)} : (A.under (.builtin "type.__call__" ⟨.ref C :: us, kw⟩)).units = A.units + 1 := by
  first | rfl | simp [Around.under, Code.cUnits, Code.frames, Code.isFrame]
theorem Room.make {k : Nat} {A : Around} (r : Room (k + 1) A) (C : Addr) (us : List Value) (kw : List (Str × Value)) : Room k (A.under (.builtin "type.__call__" ⟨.ref C :: us, kw⟩)) :=
  ⟨r.hd, by have := r.dp; rw [make_depth]; omega, by have := r.un; rw [make_units]; omega⟩
theorem Room.depth {k : Nat} {A : Around} (r : Room k A) : A.depth < recursionLimit := by have := r.dp; omega
theorem Room.units {k : Nat} {A : Around} (r : Room k A) : A.units + 64 < cLine := by have := r.un; omega

/-! ### argument lists and displays -/
def tNil : TA := fun _ H Q => Q [] H
def tCons (ta : TE) (tr : TA) : TA := fun σ H Q => ta σ H fun x H1 => tr σ H1 fun xs H2 => Q (x :: xs) H2
section
variable {X : Cx} {e : Expr} {es : List Expr} {te : TE} {t : TA} {pos : Pos}
theorem pa_nil : PA X [] tNil := fun _ _ _ _ H Q I h => Calls.spliced_nil ⟨[], H, I, .nil, h⟩
theorem pa_cons (ha : PE X e te) (hr : PA X es t) (hs : starEach (e :: es) X.env = (false, eval e X.env) :: starEach es X.env := by rfl) : PA X (e :: es) (tCons te t) := by
  intro pos pins s σ H Q I h
  rw [hs]
  show wpAny _ _ (spliced ((false, eval e X.env) :: backTo pos (starEach es X.env))) _ _ s
  refine Calls.spliced_cons (thn (ha pins s σ H _ I h) fun u s1 ⟨x, H1, I1, r1, q1⟩ => ?_)
  exact thn (hr pos pins s1 σ H1 _ I1 q1) fun us s2 ⟨xs, H2, I2, r2, q2⟩ => ⟨x :: xs, H2, I2, .cons r1 r2, q2⟩

/-- a tuple, a list of written items -/
def tTup (t : TA) : TE := fun σ H Q => t σ H fun xs H1 => xs.length ≤ sizeLine ∧ ∀ p, H1 p = none → Q (.ref p) (upd H1 p (.tup xs))
def tLst (t : TA) : TE := fun σ H Q => t σ H fun xs H1 => xs.length ≤ sizeLine ∧ ∀ p, H1 p = none → Q (.ref p) (upd H1 p (.lst xs))
theorem pe_tup {x1} (h : PA X es t) : PE X (.Tuple es x1 pos) (tTup t) := by
  intro pins s σ H Q I hq
  refine wpAny_Tuple_spliced (thn (h pos pins s σ H _ I hq) fun us s1 ⟨xs, H1, I1, r, z, q⟩ => ⟨by rw [← r.length]; exact z, ?_⟩)
  have hf : H1 s1.heap.objs.size = none := I1.hok.fresh (Nat.le_refl _)
  refine ⟨.ref s1.heap.objs.size, upd H1 s1.heap.objs.size (.tup xs), I1.laid (t' := s1.toks) (fun b u e => Heap.get?_push_of_some _ e) (Nat.le_refl _) ?_, rfl, q _ hf⟩
  exact ⟨z, us, r, ⟨_, Heap.get?_push_size _ rfl, rfl, _, rfl⟩⟩
theorem pe_lst (h : PA X es t) : PE X (.List es pos) (tLst t) := by
  intro pins s σ H Q I hq
  refine wpAny_List_spliced (thn (h pos pins s σ H _ I hq) fun us s1 ⟨xs, H1, I1, r, z, q⟩ => ⟨by rw [← r.length]; exact z, ?_⟩)
  have hf : H1 s1.heap.objs.size = none := I1.hok.fresh (Nat.le_refl _)
  refine ⟨.ref s1.heap.objs.size, upd H1 s1.heap.objs.size (.lst xs), I1.laid (t' := s1.toks) (fun b u e => Heap.get?_push_of_some _ e) (Nat.le_refl _) ?_, rfl, q _ hf⟩
  exact ⟨z, us, 0, r, Heap.get?_push_size _ rfl⟩
end

/-! ### what a def promises -/
/-- a def's promise: the bound arguments in the parameters' order, the heap, the wanted end, the wanted exception -/
abbrev Sp := List V → Hp → VK → XK → Prop
/-- how an exception lies behind a call (file 08 gives it): the callers' frames, abstract heap and state ahead of the call, the wish, the exception, the state -/
abbrev CXT := List Env → Hp → Shared → XK → Value → Shared → Prop

/-- the state at a call -/
structure Env0 (P : Program) (w : World) (K : PySem.W.Frag) (mg : Str → Option Value) (base : Heap) (A : Around) (outer : List Env) (s : Shared) (H : Hp) : Prop where
  frames : A.frames = some outer
  mod : Mod K mg base
  bs : ∀ b o, base.get? b = some o → s.heap.get? b = some o ∧ H b = none
  bsz : base.objs.size ≤ s.heap.objs.size
  funs : s.heap.FunFrames base outer
  frf : ∀ b ∈ frs outer, H b = none
  hok : HOk P w H s.heap
  bare : AllBare s.gens
/-- a call's end -/
def CE (outer : List Env) (P : Program) (w : World) (H : Hp) (s : Shared) (Q : VK) (u : Value) (s' : Shared) : Prop :=
  ∃ v H', s'.os = s.os ∧ AllBare s'.gens ∧ Un (frs outer) [] H H' s.heap s'.heap ∧ HOk P w H' s'.heap ∧ RelV v u ∧ Q v H'
def CR (CX : CXT) (outer : List Env) (P : Program) (w : World) (H : Hp) (s : Shared) (Q : VK) (E : XK) (r : Result) (s' : Shared) : Prop :=
  match r with
  | .ok (.ret u) => CE outer P w H s Q u s'
  | .ok _ => False
  | .error e => CX outer H s E e s'
structure FnOk (P : Program) (w : World) (K : PySem.W.Frag) (mg : Str → Option Value) (base : Heap) (CX : CXT) (k : Nat) (f : Addr) (fd : FuncData) (ps : List Str) (sp : Sp) : Prop where
  len : ∀ vs H Q E, sp vs H Q E → vs.length = ps.length
  run : ∀ (A : Around) (outer : List Env) (s : Shared) (H : Hp) (args : Args) (us : List Value) (vs : List V) (Q : VK) (E : XK), Room k A → Env0 P w K mg base A outer s H → BindsTo s fd args (ps.zip us) → Vals vs us → sp vs H Q E →
    codeAny (model P w) A (.call (.ref f) args) (CR CX outer P w H s Q E) s

theorem Env0.make {P : Program} {w : World} {K : PySem.W.Frag} {mg : Str → Option Value} {base : Heap} {A : Around} {outer : List Env} {s : Shared} {H : Hp} (e : Env0 P w K mg base A outer s H) (C : Addr) (us : List Value) (kw : List (Str × Value)) :
    Env0 P w K mg base (A.under (.builtin "type.__call__" ⟨.ref C :: us, kw⟩)) outer s H := ⟨by first | exact e.frames | (simpa [Around.under, Code.envs, Code.isFrame, pushEnvs] using e.frames), e.mod, e.bs, e.bsz, e.funs, e.frf, e.hok, e.bare⟩

section
variable {X : Cx} {pins : List (Addr × Obj)} {σ : St} {H : Hp} {s s' : Shared}
/-- from a body: what a callee wants -/
theorem Inv.env0 (I : Inv X pins σ H s) : Env0 X.prog X.w X.K X.mg X.base X.A X.stack s H :=
  ⟨I.ok.frames, I.ok.mod, I.bs, Nat.le_trans I.ok.bsz I.sz, I.stack, I.stkFree, I.hok, I.bare⟩
/-- behind a call -/
theorem Inv.after {Q : VK} {u : Value} (I : Inv X pins σ H s) (h : CE X.stack X.prog X.w H s Q u s') : EP X pins σ Q u s' := by
  obtain ⟨v, H', os, bare, un, hok, r, q⟩ := h
  obtain ⟨hh, g, d, t, os'⟩ := s'
  obtain rfl : os' = s.os := os
  exact ⟨v, H', I.call (h' := hh) (g' := g) (d' := d) (t' := t) (ch := []) un hok bare (fun b z => absurd z (by simp)), r, q⟩
end

/-! ### calls -/
/-- f(..): the written arguments, then the defaults dvs; E: what is wanted of an exception -/
def tCall (sp : Sp) (dvs : List V) (E : XK) (t : TA) : TE := fun σ H Q => t σ H fun vs H1 => sp (vs ++ dvs) H1 Q E
/-- o.m(..) of an instance of the class at C -/
def tMeth (C : Addr) (m : Str) (sp : Sp) (dvs : List V) (E : XK) (ta : TE) (t : TA) : TE := fun σ H Q => ta σ H fun x H1 => ∃ a dx fs, x = .ref a ∧ H1 a = some (.ins C dx fs) ∧ fs.lookup m = none ∧
  t σ H1 fun vs H2 => sp (x :: (vs ++ dvs)) H2 Q E
/-- C(..): a new instance and its dict, then __init__ -/
def tMake (C : Addr) (sp : Sp) (dvs : List V) (E : XK) (t : TA) : TE := fun σ H Q => t σ H fun vs H1 => ∀ x dx, H1 x = none → H1 dx = none → dx ≠ x →
  sp (.ref x :: (vs ++ dvs)) (upd (upd H1 dx (.own x)) x (.ins C dx [])) (fun v H2 => v = .non ∧ Q (.ref x) H2) E

/-- how the parameters are bound: us the positional arguments, kw the keywords' values by name, ds the defaults that fill up -/
def Binds (K : PySem.W.Frag) (fd : FuncData) (ps : List Str) (ds : List Value) : Prop :=
  ∀ (s : Shared) (us : List Value), K.In s.heap → (us ++ ds).length = ps.length → BindsTo s fd ⟨us, []⟩ (ps.zip (us ++ ds))
/-- every parameter is given -/
theorem Binds.all {K : PySem.W.Frag} {fd : FuncData} {ps : List Str} (h : ∀ us : List Value, us.length = ps.length → bindArgs fd ⟨us, []⟩ = pure (ps.zip us)) : Binds K fd ps [] := fun s us _ hl => by
  rw [List.append_nil] at hl ⊢
  exact .of_eq (h us hl)

/-- an exception of a callee reaches what this body wants of exceptions -/
def Passes (CX : CXT) (X : Cx) (E : XK) : Prop := ∀ (pins : List (Addr × Obj)) (σ : St) (H : Hp) (s : Shared) (e : Value) (s' : Shared), Inv X pins σ H s → CX X.stack H s E e s' → X.xe e s'

section
variable {X : Cx} {CX : CXT} {k : Nat} {f C : Addr} {fd : FuncData} {ps : List Str} {sp : Sp} {dvs : List V} {ds : List Value} {E : XK} {x m : Str} {p pos apos : Pos} {e o : Expr} {es : List Expr} {ta : TE} {t : TA}

/-- the callee runs -/
theorem run_fn {pins : List (Addr × Obj)} {σ : St} {H : Hp} {s : Shared} {Q : VK} {us : List Value} {vs : List V} (F : FnOk X.prog X.w X.K X.mg X.base CX k f fd ps sp) (hr : Room k X.A) (hb : Binds X.K fd ps ds) (hd : Vals dvs ds) (hx : Passes CX X E)
    (I : Inv X pins σ H s) (r : Vals vs us) (h : sp (vs ++ dvs) H Q E) : wpAny (model X.prog X.w) X.A (call (.ref f) us) (EP X pins σ Q) X.xe s := by
  have r2 : Vals (vs ++ dvs) (us ++ ds) := r.append hd
  have hl : (us ++ ds).length = ps.length := by rw [← r2.length]; exact F.len _ _ _ _ h
  refine wpAny_call (codeAny_mono (F.run X.A X.stack s H ⟨us, []⟩ (us ++ ds) (vs ++ dvs) Q E hr I.env0 (hb s us I.kIn hl) r2 h) fun r s' hq => ?_)
  cases r with
  | error e => exact hx pins σ H s e s' I hq
  | ok fl =>
    cases fl with
    | ret u => exact I.after hq
    | next => exact False.elim hq
    | brk => exact False.elim hq
    | cont => exact False.elim hq

theorem pe_call (F : FnOk X.prog X.w X.K X.mg X.base CX k f fd ps sp) (hr : Room k X.A) (hg : Gl X x) (hm : X.mg x = some (.ref f)) (hk : PySem.W.keepIn X.K (.ref f) = true) (hb : Binds X.K fd ps ds) (hd : Vals dvs ds) (hx : Passes CX X E)
    (ha : PA X (e :: es) t) (hdb : (x == ("__debug__" : Str)) = false := by decide) (he : starEach (e :: es) X.env = (false, eval e X.env) :: starEach es X.env := by rfl) (hpl : (backTo pos (starEach es X.env)).any (·.1) = false := by rfl) :
    PE X (.Call (.Name x p) (e :: es) [] pos) (tCall sp dvs E t) := by
  intro pins s σ H Q I h
  refine wpAny_Call_Name_kw (ld_glob I hg hm ?_ hdb)
  refine PySem.W.callWith_K (h₀ := X.base) I.ok.mod.kin hk (thn (ha pos pins s σ H _ I h) fun us s1 ⟨vs, H1, I1, r, q⟩ => ⟨I1.kIn, ?_⟩) he hpl
  exact run_fn F hr hb hd hx I1 r q

/-- o.m(e, ..) -/
theorem pe_meth {pl : Sem Bool} (he : PE X o ta) (c : Cls X.K C) (hm : Meth X.K C m f) (F : FnOk X.prog X.w X.K X.mg X.base CX k f fd ps sp) (hr : Room k X.A) (hb : Binds X.K fd ps ds) (hd : Vals dvs ds) (hx : Passes CX X E) (ha : PA X (e :: es) t)
    (hst : starEach (e :: es) X.env = (false, eval e X.env) :: starEach es X.env := by rfl) (hpl : (backTo pos (starEach es X.env)).any (·.1) = false := by rfl)
    (ht : eval (.Call (.Attribute o m apos) (e :: es) [] pos) X.env = (do
      let ov ← eval o X.env
      standAt apos.atName
      let (f, first) ← holding [ov] (getMethod ov m pl)
      callWith pos f first (backTo pos (starEach (e :: es) X.env)) (backToKw pos (keywordEach [] X.env))) := by rfl) :
    PE X (.Call (.Attribute o m apos) (e :: es) [] pos) (tMeth C m sp dvs E ta t) := by
  intro pins s σ H Q I h
  refine PySem.W.methodCall_KW (pl := pl) (thn (he pins s σ H _ I h) fun u s1 ⟨x, H1, I1, rx, a, dx, fs, ex, ea, l, q⟩ => ?_) ht
  subst ex
  obtain rfl : u = Value.ref a := rx
  refine getmeth_ok I1 ea c hm l ?_
  refine PySem.W.callWith_K (first := [.ref a]) (h₀ := X.base) I.ok.mod.kin hm.kp (thn (ha pos pins s1 σ H1 _ I1 q) fun us s2 ⟨vs, H2, I2, r, q2⟩ => ⟨I2.kIn, ?_⟩) hst hpl
  exact run_fn (us := .ref a :: us) (vs := .ref a :: vs) F hr hb hd hx I2 (.cons rfl r) q2
/-- o.m() -/
theorem pe_meth0 {pl : Sem Bool} (he : PE X o ta) (c : Cls X.K C) (hm : Meth X.K C m f) (F : FnOk X.prog X.w X.K X.mg X.base CX k f fd ps sp) (hr : Room k X.A) (hb : Binds X.K fd ps ds) (hd : Vals dvs ds) (hx : Passes CX X E)
    (ht : eval (.Call (.Attribute o m apos) [] [] pos) X.env = (do
      let ov ← eval o X.env
      standAt apos.atName
      let (f, first) ← holding [ov] (getMethod ov m pl)
      callWith pos f first (backTo pos (starEach [] X.env)) (backToKw pos (keywordEach [] X.env))) := by rfl) :
    PE X (.Call (.Attribute o m apos) [] [] pos) (tMeth C m sp dvs E ta tNil) := by
  intro pins s σ H Q I h
  refine PySem.W.methodCall_KW (pl := pl) (thn (he pins s σ H _ I h) fun u s1 ⟨x, H1, I1, rx, a, dx, fs, ex, ea, l, q⟩ => ?_) ht
  subst ex
  obtain rfl : u = Value.ref a := rx
  refine getmeth_ok I1 ea c hm l ?_
  exact PySem.W.callWith_K0 (first := [.ref a]) I1.kIn hm.kp (run_fn (us := [.ref a]) (vs := [.ref a]) F hr hb hd hx I1 (.cons rfl .nil) q)

/-- what a class must have to be made -/
structure Mk (K : PySem.W.Frag) (C f : Addr) : Prop where
  makes : PySem.W.makesIn K C = true
  init : PySem.W.findIn K (.ref C) "__init__" = some (some (.ref f))
  fn : PySem.W.isFn K (.ref f) = true
  kp : PySem.W.keepIn K (.ref C) = true

theorem run_make {pins : List (Addr × Obj)} {σ : St} {H : Hp} {s : Shared} {Q : VK} {us : List Value} {vs : List V} (M : Mk X.K C f) (F : FnOk X.prog X.w X.K X.mg X.base CX k f fd ps sp) (hr : Room (k + 1) X.A) (hb : Binds X.K fd ps ds) (hd : Vals dvs ds)
    (hx : Passes CX X E) (I : Inv X pins σ H s) (r : Vals vs us)
    (h : ∀ x dx, H x = none → H dx = none → dx ≠ x → sp (.ref x :: (vs ++ dvs)) (upd (upd H dx (.own x)) x (.ins C dx [])) (fun v H2 => v = .non ∧ Q (.ref x) H2) E) :
    wpAny (model X.prog X.w) X.A (call (.ref C) us) (EP X pins σ Q) X.xe s := by
  have hq := h (s.heap.objs.size + 1) s.heap.objs.size (I.hok.fresh (Nat.le_succ _)) (I.hok.fresh (Nat.le_refl _)) (Nat.ne_of_lt (Nat.lt_succ_self _))
  have I2 := Inv.made (C := C) I
  have r2 : Vals (V.ref (s.heap.objs.size + 1) :: (vs ++ dvs)) (Value.ref (s.heap.objs.size + 1) :: (us ++ ds)) := .cons rfl (r.append hd)
  have hl : (Value.ref (s.heap.objs.size + 1) :: us ++ ds).length = ps.length := by
    have e := r2.length
    rw [F.len _ _ _ _ hq] at e
    exact e.symm
  refine wpAny_call (make_map (f := f) I.kIn M.makes M.init (beq_iff_eq.mp M.fn) (codeAny_mono (F.run _ X.stack _ _ ⟨Value.ref (s.heap.objs.size + 1) :: us, []⟩ (Value.ref (s.heap.objs.size + 1) :: (us ++ ds)) _ _ E (hr.make C us [])
    (I2.env0.make C us []) (hb _ (Value.ref (s.heap.objs.size + 1) :: us) I2.kIn hl) r2 hq) fun r s' hq' => ?_))
  cases r with
  | error e => exact hx pins σ _ _ e s' I2 hq'
  | ok fl =>
    cases fl with
    | ret u =>
      obtain ⟨v, H', I3, rv, ev, q3⟩ := I2.after hq'
      subst ev
      exact ⟨rv, ⟨V.ref (s.heap.objs.size + 1), H', I3, rfl, q3⟩⟩
    | next => exact False.elim hq'
    | brk => exact False.elim hq'
    | cont => exact False.elim hq'
theorem pe_make (M : Mk X.K C f) (F : FnOk X.prog X.w X.K X.mg X.base CX k f fd ps sp) (hr : Room (k + 1) X.A) (hg : Gl X x) (hm : X.mg x = some (.ref C)) (hb : Binds X.K fd ps ds) (hd : Vals dvs ds) (hx : Passes CX X E)
    (ha : PA X (e :: es) t) (hdb : (x == ("__debug__" : Str)) = false := by decide) (he : starEach (e :: es) X.env = (false, eval e X.env) :: starEach es X.env := by rfl) (hpl : (backTo pos (starEach es X.env)).any (·.1) = false := by rfl) :
    PE X (.Call (.Name x p) (e :: es) [] pos) (tMake C sp dvs E t) := by
  intro pins s σ H Q I h
  refine wpAny_Call_Name_kw (ld_glob I hg hm ?_ hdb)
  refine PySem.W.callWith_K (h₀ := X.base) I.ok.mod.kin M.kp (thn (ha pos pins s σ H _ I h) fun us s1 ⟨vs, H1, I1, r, q⟩ => ⟨I1.kIn, ?_⟩) he hpl
  exact run_make M F hr hb hd hx I1 r q
theorem pe_make0 (M : Mk X.K C f) (F : FnOk X.prog X.w X.K X.mg X.base CX k f fd ps sp) (hr : Room (k + 1) X.A) (hg : Gl X x) (hm : X.mg x = some (.ref C)) (hb : Binds X.K fd ps ds) (hd : Vals dvs ds) (hx : Passes CX X E)
    (hdb : (x == ("__debug__" : Str)) = false := by decide) : PE X (.Call (.Name x p) [] [] pos) (tMake C sp dvs E tNil) := by
  intro pins s σ H Q I h
  refine wpAny_Call_Name_kw (ld_glob I hg hm ?_ hdb)
  exact PySem.W.callWith_K0 I.kIn M.kp (run_make (us := []) M F hr hb hd hx I .nil h)
end

/-! ### keywords -/
section
variable {X : Cx} {CX : CXT} {k : Nat} {f C : Addr} {fd : FuncData} {ps ks : List Str} {sp : Sp} {E : XK} {x m : Str} {p pos apos kpos : Pos} {e o : Expr} {es : List Expr} {kws : List Keyword} {te ta : TE} {t tk : TA} {nm : Option Str}

variable {g : List Value → List Value → List Value} {gV : List V → List V → List V}
end

/-! ### a def's body keeps its promise -/
/-- names: the parameters first -/
structure FnScope (N P : List Str) (sc : Scope) : Prop where
  kind : sc.kind = .function
  co : sc.isCoroutine = false
  gen : sc.isGenerator = false
  nd : N.Nodup
  pre : N.take P.length = P
  par : ∀ x ∈ P, sc.names.lookup x = some .local ∨ sc.names.lookup x = some .cell
  nofree : ∀ y ∈ sc.names, y.2 ≠ .free

theorem bindL_out {kindOf : Str → Option NameKind} {x : Str} : ∀ {binds : List (Str × Value)} {m : Str → Option Value}, (∀ v, (x, v) ∉ binds) → bindL kindOf binds m x = m x
  | [], _, _ => rfl
  | (n, v) :: r, m, h => by
    unfold bindL
    rw [bindL_out fun w hw => h w (List.mem_cons_of_mem _ hw)]
    split
    · have : x ≠ n := by rintro rfl; exact h v List.mem_cons_self
      simp [this]
    · rfl
theorem bindC_out {kindOf : Str → Option NameKind} {x : Str} : ∀ {binds : List (Str × Value)} {m : Str → Option Value}, (∀ v, (x, v) ∉ binds) → bindC kindOf binds m x = m x
  | [], _, _ => rfl
  | (n, v) :: r, m, h => by
    unfold bindC
    rw [bindC_out fun w hw => h w (List.mem_cons_of_mem _ hw)]
    split
    · rfl
    · have : x ≠ n := by rintro rfl; exact h v List.mem_cons_self
      simp [this]
theorem bindL_get {kindOf : Str → Option NameKind} {x : Str} {v : Value} : ∀ {P : List Str} {vs : List Value} {i : Nat} {m : Str → Option Value}, P.Nodup → P[i]? = some x → vs[i]? = some v → kindOf x = some .local →
    bindL kindOf (P.zip vs) m x = some v
  | [], _, _, _, _, h, _, _ => by simp at h
  | _ :: _, [], _, _, _, _, h, _ => by simp at h
  | p :: P, w :: vs, 0, m, nd, h1, h2, hk => by
    simp at h1 h2; subst h1; subst h2
    show bindL kindOf ((p, w) :: P.zip vs) m p = _
    unfold bindL
    rw [bindL_out fun v hv => (List.nodup_cons.mp nd).1 (List.of_mem_zip hv).1, if_pos hk]
    simp
  | p :: P, w :: vs, i + 1, m, nd, h1, h2, hk => by
    show bindL kindOf ((p, w) :: P.zip vs) m x = _
    unfold bindL
    exact bindL_get (i := i) (List.nodup_cons.mp nd).2 (by simpa using h1) (by simpa using h2) hk
theorem bindC_get {kindOf : Str → Option NameKind} {x : Str} {v : Value} : ∀ {P : List Str} {vs : List Value} {i : Nat} {m : Str → Option Value}, P.Nodup → P[i]? = some x → vs[i]? = some v → kindOf x ≠ some .local →
    bindC kindOf (P.zip vs) m x = some v
  | [], _, _, _, _, h, _, _ => by simp at h
  | _ :: _, [], _, _, _, _, h, _ => by simp at h
  | p :: P, w :: vs, 0, m, nd, h1, h2, hk => by
    simp at h1 h2; subst h1; subst h2
    show bindC kindOf ((p, w) :: P.zip vs) m p = _
    unfold bindC
    rw [bindC_out fun v hv => (List.nodup_cons.mp nd).1 (List.of_mem_zip hv).1, if_neg hk]
    simp
  | p :: P, w :: vs, i + 1, m, nd, h1, h2, hk => by
    show bindC kindOf ((p, w) :: P.zip vs) m x = _
    unfold bindC
    exact bindC_get (i := i) (List.nodup_cons.mp nd).2 (by simpa using h1) (by simpa using h2) hk

/-- the names' values at the entry -/
def start (N : List Str) (vs : List V) : St := vs.map some ++ List.replicate (N.length - vs.length) none

/-- the context of a def's body, at its entry; an exception leaves the frame, then lies as CX says -/
def cxOf (CX : CXT) (P : Program) (w : World) (K : PySem.W.Frag) (mg : Str → Option Value) (base : Heap) (N : List Str) (qual : Str) (scope : Scope) (f : Addr) (cd : Value) (A : Around) (outer : List Env) (s : Shared) (H : Hp) (E : XK) : Cx where
  prog := P
  w := w
  K := K
  mg := mg
  base := base
  A := A.deeper (envOfC qual scope s.heap.objs.size f cd)
  N := N
  s_0 := s
  H_0 := H
  env := envOfC qual scope s.heap.objs.size f cd
  outer := outer
  stack := envOfC qual scope s.heap.objs.size f cd :: outer
  ex := []
  calm := true
  fn := fun _ => true
  pn := []
  xe := fun e s' => wpAny (model P w) (A.deeper (envOfC qual scope s.heap.objs.size f cd)) (leaving (envOfC qual scope s.heap.objs.size f cd) e) (fun _ s'' => CX outer H s E e s'') (fun e' s'' => CX outer H s E e' s'') s'

theorem cell_has {sc : Scope} {n : Nat} {x : Str} (h : sc.names.lookup x = some .cell) : ∃ c, (cellsFrom n sc.names []).lookup x = some c := by
  have q := PySem.W.cellsFrom_some sc.names n [] (.inl h)
  exact Option.isSome_iff_exists.mp q

theorem inv_start {CX : CXT} {P : Program} {w : World} {K : PySem.W.Frag} {mg : Str → Option Value} {base : Heap} {N ps : List Str} {qual : Str} {scope : Scope} {f : Addr} {cd : Value} {A : Around} {outer : List Env} {s s1 : Shared} {H : Hp} {E : XK} {us : List Value} {vs : List V}
    (S : FnScope N ps scope) (hd : A.handled = none) (e0 : Env0 P w K mg base A outer s H) (hl : vs.length = ps.length) (r : Vals vs us)
    (x : InCallC s s.heap.objs.size (bindL (envOfC qual scope s.heap.objs.size f cd).kindOf (ps.zip us) fun _ => none) (cellsFrom (s.heap.objs.size + 1) scope.names []) (bindC (envOfC qual scope s.heap.objs.size f cd).kindOf (ps.zip us) fun _ => none) s1) :
    Inv (cxOf CX P w K mg base N qual scope f cd A outer s H E) [] (start N vs) H s1 := by
  have hpl : ps.length ≤ N.length := by have := congrArg List.length S.pre; rw [List.length_take] at this; omega
  obtain ⟨h1, tk, rfl, hk⟩ := x.done
  have noA : ∀ b : Addr, b ∉ (cxOf CX P w K mg base N qual scope f cd A outer s H E).ex := fun b z => absurd (show b ∈ ([] : List Addr) from z) (by simp)
  refine ⟨⟨e0.mod, S.kind, rfl, rfl, Nat.le_refl _, fun y z c h1 h2 => ?_, fun y hy => ?_, fun y c _ h => ?_, fun _ => hd, Around.frames_deeper e0.frames, .inr ⟨rfl, rfl⟩, fun b z => absurd z (noA b), e0.bs, e0.bsz, fun b _ _ => noA b, fun b z => absurd z (noA b), e0.funs, e0.frf⟩,
    rfl, e0.bare, Un.kept hk, ⟨_, x.toInCall.ns, fun i y v h1 h2 h3 => ?_⟩, fun y c h => ⟨_, x.cell y c h⟩, e0.hok.fresh (Nat.le_refl _), fun y c h => ?_, fun p hp => absurd (show p ∈ ([] : List (Addr × Obj)) from hp) (by simp), e0.hok.kept hk, ?_⟩
  · exact name_of_addr x.apart (PySem.mem_of_lookup h1) (PySem.mem_of_lookup h2)
  · have hy : scope.names.lookup y = some .cell ∨ scope.names.lookup y = some .free := hy
    rcases hy with hy | hy
    · exact cell_has hy
    · exact absurd rfl (S.nofree _ (PySem.mem_of_lookup hy))
  · exact Nat.le_of_lt (x.above y c (PySem.mem_of_lookup h))
  · have hi : i < vs.length := by
      unfold start at h2
      by_cases hi : i < vs.length
      · exact hi
      · rw [List.getElem?_append_right (by simpa using hi)] at h2
        rw [List.getElem?_replicate] at h2
        split at h2 <;> cases h2
    have ha : vs[i]? = some v := by
      unfold start at h2
      rw [List.getElem?_append_left (by simpa using hi), List.getElem?_map] at h2
      cases e : vs[i]? with
      | none => rw [e] at h2; cases h2
      | some a => rw [e] at h2; cases h2; rfl
    obtain ⟨u, hu, rv⟩ := r.get ha
    have hp : ps[i]? = some y := by
      rw [← S.pre, List.getElem?_take_of_lt (by omega)]; exact h1
    have ndP : ps.Nodup := by rw [← S.pre]; exact S.nd.sublist (List.take_sublist _ _)
    refine ⟨u, rv, ?_⟩
    rcases S.par y (List.mem_of_getElem? hp) with k | k
    · exact .inl ⟨k, bindL_get ndP hp hu k⟩
    · obtain ⟨c, e⟩ := cell_has (n := s.heap.objs.size + 1) k
      refine .inr ⟨.inl k, c, e, ?_⟩
      have q := x.cell y c e
      rw [bindC_get ndP hp hu (by show scope.names.lookup y ≠ _; rw [k]; decide)] at q
      exact q
  · exact e0.hok.fresh (Nat.le_of_lt (x.above y c (PySem.mem_of_lookup h)))
  · unfold start
    show _ = N.length
    rw [List.length_append, List.length_map, List.length_replicate]
    omega

/-- THE RULE: a def (or a method) of the text, by its body. The body's reading t is chosen for each entry; it is run at the parameters' values -/
theorem fn_of {CX : CXT} {P : Program} {w : World} {K : PySem.W.Frag} {mg : Str → Option Value} {base : Heap} {k : Nat} {f : Addr} {name qual : Str} {params : Arguments} {body : List Stmt} {scope : Scope} {dV kV doc pm cdv ct oc : Value} {an od : Option Addr}
    {osl : Array (Option Value)} {N ps : List Str} {sp : Sp} (lk : K.lookup f = some ⟨oc, od, .func (PySem.W.fnOf name qual params body scope dV kV doc pm an cdv ct), osl⟩) (hcd : PySem.W.codeIn K cdv qual = true) (S : FnScope N ps scope)
    (len : ∀ vs H Q E, sp vs H Q E → vs.length = ps.length)
    (hbody : ∀ (A : Around) (outer : List Env) (s : Shared) (H : Hp) (vs : List V) (Q : VK) (E : XK), Room k (A.deeper (envOfC qual scope s.heap.objs.size f cdv)) → sp vs H Q E →
      ∃ t, PSs (cxOf CX P w K mg base N qual scope f cdv A outer s H E) body t ∧ t { nx := fun _ H' => Q .non H', rt := Q } (start N vs) H) :
    FnOk P w K mg base CX (k + 1) f (PySem.W.fnOf name qual params body scope dV kV doc pm an cdv ct) ps sp := by
  refine ⟨len, fun A outer s H args us vs Q E hr e0 hb r hsp => ?_⟩
  have hl := len _ _ _ _ hsp
  have KX : K.In s.heap := e0.mod.kin.keeps fun b o e => (e0.bs b o e).1
  have lim : s.heap.NoLimit := e0.mod.nolimit.keeps fun b o e => (e0.bs b o e).1
  have hkind : ∀ y ∈ ps.zip us, scope.names.lookup y.1 = some .local ∨ (scope.names.lookup y.1 = some .cell ∧ ((cellsFrom (s.heap.objs.size + 1) scope.names []).lookup y.1).isSome = true) := fun ⟨n, v⟩ hy => by
    rcases S.par n (List.of_mem_zip hy).1 with q | q
    · exact .inl q
    · exact .inr ⟨q, PySem.W.cellsFrom_some _ _ _ (.inl q)⟩
  refine codeAny_call_function hr.depth (KX _ _ lk) rfl S.co S.gen rfl (PySem.W.codeRec_of KX hcd) (hb _ _ _ _ ?_)
  refine wpAny_newFunctionEnv_cells S.kind hkind fun env he s1 x => ?_
  subst he
  refine ⟨lim.keeps x.toInCall.keep, codeAny_func ?_⟩
  obtain ⟨t, ht, hq⟩ := hbody A outer s H vs Q E (hr.deeper _) hsp
  have I : Inv (cxOf CX P w K mg base N qual scope f cdv A outer s H E) [] (start N vs) H s1 := inv_start S hr.hd e0 hl r x
  refine wpAny_mono (ht [] s1 (start N vs) H _ I hq) (fun fl s' hs => ?_) fun e s' hs => hs
  have fin : ∀ {σ' : St} {H' : Hp} {v : V} {u : Value}, Inv (cxOf CX P w K mg base N qual scope f cdv A outer s H E) [] σ' H' s' → RelV v u → Q v H' → CE outer P w H s Q u s' :=
    fun {σ' H' v u} J rv q => ⟨v, H', J.os, J.bare, J.base, J.hok, rv, q⟩
  cases fl with
  | ret u =>
    obtain ⟨v, σ', H', J, rv, q⟩ := hs
    exact fin J rv q
  | next =>
    obtain ⟨σ', H', J, q⟩ := hs
    exact fin (v := V.non) (u := Value.none) J rfl q
  | brk =>
    obtain ⟨_, _, _, q⟩ := hs
    exact False.elim q
  | cont =>
    obtain ⟨_, _, _, q⟩ := hs
    exact False.elim q
end L2

namespace L2
open PySem PySem.Spec PyProof.Rows
section
variable {X : Cx} {x : Str} {p pos : Pos} {e : Expr} {es : List Expr} {t : TA} {id T : String} {r : List V → Hp → VK → Prop}

def tCB (r : List V → Hp → VK → Prop) (t : TA) : TE := fun σ H Q => t σ H fun vs H1 => r vs H1 Q
/-- f(e, ..), f a built-in function -/
theorem pe_callB (hc : CallR X (.builtin id) r) (hg : Gl X x) (hm : X.mg x = none) (hv : bootBuiltins x = some (.builtin id)) (ha : PA X (e :: es) t) (hn : x ≠ "__name__" := by decide) (hdb : (x == ("__debug__" : Str)) = false := by decide)
    (he : starEach (e :: es) X.env = (false, eval e X.env) :: starEach es X.env := by rfl) (hpl : (backTo pos (starEach es X.env)).any (·.1) = false := by rfl) : PE X (.Call (.Name x p) (e :: es) [] pos) (tCB r t) := by
  intro pins s σ H Q I h
  refine wpAny_Call_Name_kw (ld_blt I hg hm hv ?_ hn hdb)
  exact PyProof.Rows.callWith_builtin1 (thn (ha pos pins s σ H _ I h) fun us s1 ⟨vs, H1, I1, r1, q1⟩ => hc pins s1 σ H1 vs us Q I1 r1 q1) he hpl
/-- T(e, ..), T a built-in type -/
theorem pe_callTy (hc : CallR X (.type T) r) (hg : Gl X x) (hm : X.mg x = none) (hv : bootBuiltins x = some (.type T)) (ha : PA X (e :: es) t) (hn : x ≠ "__name__" := by decide) (hdb : (x == ("__debug__" : Str)) = false := by decide)
    (he : starEach (e :: es) X.env = (false, eval e X.env) :: starEach es X.env := by rfl) (hpl : (backTo pos (starEach es X.env)).any (·.1) = false := by rfl) : PE X (.Call (.Name x p) (e :: es) [] pos) (tCB r t) := by
  intro pins s σ H Q I h
  refine wpAny_Call_Name_kw (ld_blt I hg hm hv ?_ hn hdb)
  exact PyProof.Rows.callWith_type1 (thn (ha pos pins s σ H _ I h) fun us s1 ⟨vs, H1, I1, r1, q1⟩ => hc pins s1 σ H1 vs us Q I1 r1 q1) he hpl
end
end L2

namespace HT
open PySem PyProof.Rows

/-- t < u of tuples of ints -/
def lexLt : List Int → List Int → Bool
  | [], [] => false
  | [], _ :: _ => true
  | _ :: _, [] => false
  | x :: xs, y :: ys => if x = y then lexLt xs ys else decide (x < y)
theorem lexLt_cons (x y : Int) (xs ys : List Int) : lexLt (x :: xs) (y :: ys) = if x = y then lexLt xs ys else decide (x < y) := rfl
theorem lexLt_nil_nil : lexLt [] [] = false := rfl
theorem lexLt_nil_cons (y : Int) (ys : List Int) : lexLt [] (y :: ys) = true := rfl
theorem lexLt_cons_nil (x : Int) (xs : List Int) : lexLt (x :: xs) [] = false := rfl

theorem eqAt_int (A : Around) (s : Shared) (a : Int) (t : Tok) (c : Int) (u : Tok) : ∃ e, SeqAt.EqAt A s (.int a t) (.int c u) e ∧ (e = true ↔ a = c) :=
  ⟨(a == c), SeqAt.EqAt.int_int a t c u, by simp⟩
theorem rcLt_int (A : Around) (s : Shared) (a : Int) (t : Tok) (c : Int) (u : Tok) (prog : Program) (w : World) (E : Value → Shared → Prop) (Q : Value → Shared → Prop) (h : Q (.bool (decide (a < c))) s) :
    wpAny (model prog w) A (richCompare .Lt (.int a t) (.int c u)) Q E s :=
  (PyProof.Rows.lt_int h : wpAny (model prog w) A (compareOp .Lt (.int a t) (.int c u)) Q E s)

section
open PySem.SeqAt
open PySem.AutoSeq1 (wpAny_loadPart')
open PySem.MeetsSeq PySem.MeetsSeq2 PySem.MeetsSeq3

theorem tuple_lt_ints (l b : Addr) (items items2 : Array Value) (n n2 : Nat) (dd dd2 : Option Addr) (sl sl2 : Array (Option Value)) (ns ms : List Int) (hi : IntsAre items.toList ns) (hj : IntsAre items2.toList ms) :
    Meets (Builtin.«tuple.__lt__» ⟨[.ref l, .ref b], []⟩)
      (fun _ R s => s.heap.get? l = some { cls := .type "tuple", dict := dd, data := .seq items n, slots := sl } ∧ s.heap.get? b = some { cls := .type "tuple", dict := dd2, data := .seq items2 n2, slots := sl2 } ∧
        R (.ok (.ret (.bool (lexLt ns ms)))) s) :=
  .of_wp fun prog w A R s h => by
    obtain ⟨hp, g, d, tk, os⟩ := s; obtain ⟨hl, hb, h⟩ := h
    have f2 := AutoSeq1.sub_tuple_tuple
    have z1 : items.size = ns.length := by rw [← hi.length]; simp
    have z2 : items2.size = ms.length := by rw [← hj.length]; simp
    wp_walk using wpAny_loadPart' hl, wpAny_loadPart' hb, wpAny_forIn_list _ (fun rest b s' => b.1 = none ∧ s' = ⟨hp, g, d, tk, os⟩ ∧ ∃ (vs ws : List Value) (ns' ms' : List Int), rest = vs.zip ws ∧
      IntsAre vs ns' ∧ IntsAre ws ms' ∧ ns'.length + items2.size = ms'.length + items.size ∧ R (.ok (.ret (.bool (lexLt ns' ms')))) ⟨hp, g, d, tk, os⟩) _
    case turn =>
      rintro ⟨y, x⟩ rest b s' ⟨hb', rfl, vs, ws, ns', ms', hz, hvi, hwi, hlen, hR⟩
      cases hvi with
      | nil => rw [List.zip_nil_left] at hz; cases hz
      | cons a t hvi' =>
        cases hwi with
        | nil => rw [List.zip_nil_right] at hz; cases hz
        | cons c u hwi' =>
          rw [List.zip_cons_cons] at hz
          injection hz with hyx hrest
          injection hyx with hy hx
          subst hy hx
          rw [lexLt_cons] at hR
          simp only [List.length_cons] at hlen
          obtain ⟨e, he, hiff⟩ := eqAt_int A.in1 ⟨hp, g, d, tk, os⟩ a t c u
          refine wpAny_bind (he prog w _ _ ?_)
          cases e with
          | true =>
            rw [if_pos (hiff.mp rfl)] at hR
            wp_walk
            exact ⟨rfl, rfl, _, _, _, _, hrest, hvi', hwi', by omega, hR⟩
          | false =>
            rw [if_neg (fun q => absurd (hiff.mpr q) Bool.false_ne_true)] at hR
            have hri := rcLt_int A.in1 ⟨hp, g, d, tk, os⟩ a t c u prog w
            wp_walk using hri
            exact ⟨_, rfl, by simpa using hR⟩
    case fin =>
      rintro ⟨b1, b2⟩ s' ⟨hb', rfl, vs, ws, ns', ms', hz, hvi, hwi, hlen, hR⟩
      simp only at hb'
      subst hb'
      have hv : lexLt ns' ms' = decide (items.size < items2.size) := by
        cases hvi with
        | nil =>
          cases hwi with
          | nil =>
            simp only [List.length_nil] at hlen
            rw [lexLt_nil_nil]
            exact (decide_eq_false (by omega)).symm
          | cons c u hw =>
            simp only [List.length_nil, List.length_cons] at hlen
            rw [lexLt_nil_cons]
            exact (decide_eq_true (by omega)).symm
        | cons a t hv =>
          cases hwi with
          | nil =>
            simp only [List.length_nil, List.length_cons] at hlen
            rw [lexLt_cons_nil]
            exact (decide_eq_false (by omega)).symm
          | cons c u hw =>
            rw [List.zip_cons_cons] at hz
            cases hz
      rw [hv] at hR
      wp_walk
      exact ⟨_, rfl, by simpa [Builtin.Tuple.tupleCompareSizes] using hR⟩
    case h =>
      exact ⟨rfl, rfl, items.toList, items2.toList, ns, ms, rfl, hi, hj, by omega, h⟩
end

section
variable {prog : Program} {w : World} {A : Around} {E : Value → Shared → Prop} {s : Shared}

theorem lt_tupInts {l b : Addr} {items items2 : Array Value} {ns ms : List Int} {Q : Value → Shared → Prop} (hl : IsTup s.heap l items) (hb : IsTup s.heap b items2) (hi : IntsAre items.toList ns) (hj : IntsAre items2.toList ms)
    (hu : A.units < cLine) (h : Q (.bool (lexLt ns ms)) s) : wpAny (model prog w) A (compareOp .Lt (.ref l) (.ref b)) Q E s := by
  obtain ⟨⟨cls, dd, data, sl⟩, ho, hc, n, hd⟩ := id hl
  obtain ⟨⟨cls2, dd2, data2, sl2⟩, ho2, hc2, n2, hd2⟩ := id hb
  simp only at hc hd hc2 hd2
  subst hc hd hc2 hd2
  exact richCompare_meets_room (op := .Lt) ⟨_, ho, rfl⟩ ⟨_, ho2, rfl⟩ PySem.F.slot_tuple_lt PySem.F.entry_tuple_lt (PySem.F.args_tuple_lt_2 _ _) (tuple_lt_ints l b items items2 n n2 dd dd2 sl sl2 ns ms hi hj)
    ⟨ho, ho2, show Value.bool (lexLt ns ms) ≠ Value.notImplemented ∧ Q (.bool (lexLt ns ms)) s from ⟨(fun x => nomatch x), h⟩⟩ hu

/-! ### t[a:b], not the whole -/
/-- a slice's bound as a place among n (d where it is left out) -/
def sIx (n d : Nat) : Option Int → Nat
  | none => d
  | some v => if v < 0 then (v + (n : Int)).toNat else min v.toNat n
theorem sIx_none (n d : Nat) : sIx n d none = d := rfl
theorem sIx_nat (n d k : Nat) : sIx n d (some (k : Int)) = min k n := by
  show (if (k : Int) < 0 then ((k : Int) + (n : Int)).toNat else min (k : Int).toNat n) = min k n
  rw [if_neg (by omega), Int.toNat_natCast]

end
end HT

namespace L2
open PySem PySem.Spec PyProof.Rows

/-! ### the parts of a slice -/
abbrev TO := St → Hp → (Option Int → Hp → Prop) → Prop
/-- a slice's part (left out, or an int) -/
def PO (X : Cx) (e : Option Expr) (t : TO) : Prop :=
  ∀ (pins : List (Addr × Obj)) (s : Shared) (σ : St) (H : Hp) (Q : Option Int → Hp → Prop), Inv X pins σ H s → t σ H Q →
    wpAny (model X.prog X.w) X.A (evalPart e X.env) (fun u s' => ∃ o H', Inv X pins σ H' s' ∧ IsPart u o ∧ Q o H') X.xe s
def tNoPart : TO := fun _ H Q => Q none H
def tPart (t : TE) : TO := fun σ H Q => t σ H fun x H1 => ∃ i, x = .int i ∧ Q (some i) H1

section
variable {X : Cx} {e : Expr} {te : TE} {lo hi : Option Expr} {tl th : TO} {pos p2 : Pos}

theorem po_none : PO X none tNoPart := by
  intro pins s σ H Q I h
  rw [evalPart_none]
  exact wpAny_pure ⟨none, H, I, .none, h⟩
theorem po_some (h : PE X e te) : PO X (some e) (tPart te) := by
  intro pins s σ H Q I hw
  rw [evalPart_some]
  refine thn (h pins s σ H _ I hw) fun u s1 ⟨x, H1, I1, r1, q1⟩ => ?_
  obtain ⟨i, rfl, q⟩ := q1
  obtain ⟨t, rfl⟩ := r1
  exact ⟨some i, H1, I1, .int i t, q⟩

/-- what a slice of a value is, by values: the slice object stands at sl -/
def SlR (X : Cx) (r : V → Option Int → Option Int → Hp → VK → Prop) : Prop :=
  ∀ (pins : List (Addr × Obj)) (s : Shared) (σ : St) (H : Hp) (x : V) (v vl vu : Value) (lo hi : Option Int) (sl : Addr) (Q : VK), Inv X pins σ H s → RelV x v → s.heap.IsSliceOf sl vl vu .none → IsPart vl lo → IsPart vu hi → r x lo hi H Q →
    ∃ T id, typeLookup (.type T) "__getitem__" = pure (some (.builtin id)) ∧ s.TypeIs v T ∧ wpAny (model X.prog X.w) X.A (getItem v (.ref sl)) (EP X pins σ Q) X.xe s
def tSl (r : V → Option Int → Option Int → Hp → VK → Prop) (te : TE) (tl th : TO) : TE := fun σ H Q => te σ H fun x H1 => tl σ H1 fun l H2 => th σ H2 fun u H3 => r x l u H3 Q
/-- a[lo:hi], any a -/
theorem pe_slice {r : V → Option Int → Option Int → Hp → VK → Prop} (hr : SlR X r) (he : PE X e te) (hl : PO X lo tl) (hu : PO X hi th) : PE X (.Subscript e (.Slice lo hi none p2) pos) (tSl r te tl th) := by
  intro pins s σ H Q I h
  refine Subscript_ (thn (he pins s σ H _ I h) fun v s1 ⟨x, H1, I1, r1, q1⟩ => ?_)
  refine wpAny_Slice (thn (hl pins s1 σ H1 _ I1 q1) fun vl s2 ⟨l, H2, I2, pl, q2⟩ => thn (hu pins s2 σ H2 _ I2 q2) fun vu s3 ⟨u, H3, I3, pu, q3⟩ => ?_)
  rw [evalPart_none]
  refine wpAny_pure ?_
  have I4 : Inv X pins σ H3 { s3 with heap := s3.heap.push { cls := .type "slice", data := .fields #[vl, vu, .none] } } := I3.kept (t' := s3.toks) fun b ob q => Heap.get?_push_of_some _ q
  obtain ⟨T, id, hT, ht, hg⟩ := hr pins { s3 with heap := s3.heap.push { cls := .type "slice", data := .fields #[vl, vu, .none] } } σ H3 x v vl vu l u s3.heap.objs.size Q I4 r1 (Heap.IsSliceOf.new ..) pl pu q3
  show wpAny (model X.prog X.w) X.A (subscriptTail e (.Slice lo hi none p2) v (.ref s3.heap.objs.size)) (EP X pins σ Q) X.xe { s3 with heap := s3.heap.push { cls := .type "slice", data := .fields #[vl, vu, .none] } }
  exact tail_any (ops := [.ref s3.heap.objs.size, v]) ht hT hg (by with_unfolding_all rfl)

/-- the items of xs[lo:hi] -/
def cutV (xs : List V) (lo hi : Option Int) : List V := (xs.drop (HT.sIx xs.length 0 lo)).take (HT.sIx xs.length xs.length hi - HT.sIx xs.length 0 lo)
theorem cutV_length (xs : List V) (lo hi : Option Int) : (cutV xs lo hi).length ≤ xs.length := by
  unfold cutV
  rw [List.length_take, List.length_drop]
  omega

/-! ### t < u, t + u -/
end
end L2

namespace L2
open PySem PySem.Spec PyProof.Rows

/-! ### places -/
/-- the place that an index of any sign means -/
def ixN (n : Nat) (i : Int) : Option Nat := if 0 ≤ i then (if i < n then some i.toNat else none) else if -(n : Int) ≤ i then some (i + n).toNat else none
def atI {α : Type} (xs : List α) (i : Int) : Option α := (ixN xs.length i).bind fun j => xs[j]?
theorem ixN_seq {n : Nat} {i : Int} {j : Nat} (h : ixN n i = some j) : seqIndex? i n = some j ∧ j < n ∧ -(n : Int) ≤ i ∧ i < n := by
  unfold ixN at h
  by_cases h0 : 0 ≤ i
  · rw [if_pos h0] at h
    by_cases h1 : i < n
    · rw [if_pos h1] at h
      have e : i.toNat = j := Option.some.inj h
      exact ⟨by rw [seqIndex_of h0 h1, e], by omega, by omega, h1⟩
    · rw [if_neg h1] at h; cases h
  · rw [if_neg h0] at h
    by_cases h1 : -(n : Int) ≤ i
    · rw [if_pos h1] at h
      have e : (i + n).toNat = j := Option.some.inj h
      exact ⟨by rw [seqIndex_neg (by omega) h1, e], by omega, h1, by omega⟩
    · rw [if_neg h1] at h; cases h
theorem atI_get {α : Type} {xs : List α} {i : Int} {v : α} (h : atI xs i = some v) : ∃ j, seqIndex? i xs.length = some j ∧ xs[j]? = some v ∧ j < xs.length ∧ -(xs.length : Int) ≤ i ∧ i < xs.length := by
  unfold atI at h
  cases e : ixN xs.length i with
  | none => rw [e] at h; cases h
  | some j =>
    rw [e] at h
    obtain ⟨h1, h2, h3, h4⟩ := ixN_seq e
    exact ⟨j, h1, h, h2, h3, h4⟩
theorem atI_nat {α : Type} {xs : List α} {j : Nat} {v : α} (h : xs[j]? = some v) : atI xs (j : Int) = some v := by
  have hj : j < xs.length := (List.getElem?_eq_some_iff.mp h).1
  have e : ixN xs.length (j : Int) = some j := by
    unfold ixN
    rw [if_pos (by omega), if_pos (by omega)]; simp
  unfold atI; rw [e]; exact h

/-! ### what may be subscripted -/
/-- what stands as an index of a plain subscript -/
def PlainIx (b : Expr) : Prop := ∀ o i, subscripted b false o i = operate [o, i] (getItem o i)
/-- a subscript by values -/
def IxR (X : Cx) (r : R2) : Prop :=
  ∀ (value slice : Expr) (pins : List (Addr × Obj)) (s : Shared) (σ : St) (H : Hp) (x y : V) (v u : Value) (Q : VK), Inv X pins σ H s → RelV x v → RelV y u → r x y H Q →
    subscripted slice false v u = operate [v, u] (getItem v u) → wpAny (model X.prog X.w) X.A (subscriptTail value slice v u) (EP X pins σ Q) X.xe s
/-- a call of a builtin's method by values: the receiver, the arguments -/
def MtR (X : Cx) (id : String) (r : V → List V → Hp → VK → Prop) : Prop :=
  ∀ (pins : List (Addr × Obj)) (s : Shared) (σ : St) (H : Hp) (x : V) (xs : List V) (v : Value) (us : List Value) (Q : VK), Inv X pins σ H s → RelV x v → Vals xs us → r x xs H Q →
    wpAny (model X.prog X.w) X.A (call (.builtin id) (v :: us)) (EP X pins σ Q) X.xe s
section
variable {X : Cx} {a b : Expr} {ta tb : TE} {pos : Pos}
/-- a[b] -/
theorem pe_ix {r : R2} (hr : IxR X r) (ha : PE X a ta) (hb : PE X b tb) (hs : PlainIx b) : PE X (.Subscript a b pos) (tOp r ta tb) := by
  intro pins s σ H Q I h
  exact Subscript_ (binT ha hb I h fun v u s2 x y H2 I2 rx ry q => hr a b pins s2 σ H2 x y v u Q I2 rx ry q (hs _ _))

def rIxL (K : PySem.W.Frag) : R2 := fun x y H Q => ∃ p xs i v, x = .ref p ∧ y = .int i ∧ SqL K H p xs ∧ atI xs i = some v ∧ Q v H
def rIxT (K : PySem.W.Frag) : R2 := fun x y H Q => ∃ p xs i v, x = .ref p ∧ y = .int i ∧ SqT K H p xs ∧ atI xs i = some v ∧ Q v H
theorem ix_list : IxR X (rIxL X.K) := by
  intro value slice pins s σ H x y v u Q I rx ry h hs
  obtain ⟨p, xs, i, z, rfl, rfl, hq, he, q⟩ := h
  cases rx
  obtain ⟨t, rfl⟩ := ry
  obtain ⟨its, r, pl, hz⟩ := I.list hq
  obtain ⟨j, h1, h2, h3, h4, h5⟩ := atI_get he
  obtain ⟨w, ew, rw'⟩ := r.get h2
  have hl := r.length
  have hn := line63
  have fin : EP X pins σ Q w s := ⟨z, H, I, rw', q⟩
  by_cases h0 : 0 ≤ i
  · have hj : i.toNat = j := by
      rw [seqIndex_of h0 h5] at h1
      exact Option.some.inj h1
    exact item_listR pl.isList h0 (by omega) (by rw [hj]; simpa using ew) fin hs
  · have hj : (i + (its.toArray.size : Int)).toNat = j := by
      rw [seqIndex_neg (by omega) h4] at h1
      rw [List.size_toArray, ← hl]
      exact Option.some.inj h1
    exact subscriptTail_builtinR (x := w) pl.isList.typeIs slot_list_getitem.lookup
      (wpAny_getItem_list_neg (Q := fun r s' => r = w ∧ EP X pins σ Q r s') pl.isList (by omega) (by rw [List.size_toArray] <;> omega) (by omega) (by rw [hj]; simpa using ew) ⟨rfl, fin⟩) hs
theorem ix_tup : IxR X (rIxT X.K) := by
  intro value slice pins s σ H x y v u Q I rx ry h hs
  obtain ⟨p, xs, i, z, rfl, rfl, hq, he, q⟩ := h
  cases rx
  obtain ⟨t, rfl⟩ := ry
  obtain ⟨its, r, pl, hz⟩ := I.tuple hq
  obtain ⟨j, h1, h2, h3, h4, h5⟩ := atI_get he
  obtain ⟨w, ew, rw'⟩ := r.get h2
  have hl := r.length
  have hn := line63
  have fin : EP X pins σ Q w s := ⟨z, H, I, rw', q⟩
  exact subscriptTail_builtinR (x := w) pl.typeIs slot_tuple_getitem.lookup
    (getItem_tuple (j := j) (Q := fun r s' => r = w ∧ EP X pins σ Q r s') pl (by omega) (by omega) (by rw [List.size_toArray, ← hl]; exact h1) (by simpa using ew) ⟨rfl, fin⟩) hs

/-! ### xs[i] = v, any sign -/
/-- the list's object behind a store -/
theorem mapSeq_set (its : List Value) (n j : Nat) (u : Value) : Obj.mapSeq (·.setIfInBounds j u) { cls := .type "list", data := .seq its.toArray n } = { cls := .type "list", data := .seq (its.set j u).toArray n } := by
  simp [Obj.mapSeq]
theorem Inv.lst {pins : List (Addr × Obj)} {σ : St} {H : Hp} {s : Shared} {p : Addr} {xs : List V} (I : Inv X pins σ H s) (h : H p = some (.lst xs)) :
    ∃ (its : List Value) (n : Nat), Vals xs its ∧ s.heap.get? p = some { cls := .type "list", data := .seq its.toArray n } ∧ xs.length ≤ sizeLine := by
  obtain ⟨z, its, n, r, e⟩ := I.hok p _ h
  exact ⟨its, n, r, e, z⟩
/-- the list at p is written by an update of its object -/
theorem Inv.lstUpd {pins : List (Addr × Obj)} {σ : St} {H : Hp} {s : Shared} {p : Addr} {xs ys : List V} {its its' : List Value} {n n' : Nat} {f : Obj → Obj} (I : Inv X pins σ H s) (h : H p = some (.lst xs))
    (ho : s.heap.get? p = some { cls := .type "list", data := .seq its.toArray n }) (hf : f { cls := .type "list", data := .seq its.toArray n } = { cls := .type "list", data := .seq its'.toArray n' }) (r : Vals ys its') (hz : ys.length ≤ sizeLine) (t : Nat) :
    Inv X pins σ (upd H p (.lst ys)) { s with heap := s.heap.update p f, toks := t } := by
  have e : (s.heap.update p f).get? p = some { cls := .type "list", data := .seq its'.toArray n' } := by
    rw [Heap.get?_update_self f ho (by rw [hf] <;> rfl), hf]
  refine I.write (x := p) (e := p) (by rw [h]; trivial) (.inl rfl) (fun b u hb q => (Heap.get?_update_other _ _ (Ne.symm hb)).trans q) ⟨_, e⟩ ?_
  exact ⟨hz, its', n', r, e⟩
def rSetL : V → V → V → Hp → (Hp → Prop) → Prop := fun o i v H Q => ∃ p xs k j, o = .ref p ∧ i = .int k ∧ H p = some (.lst xs) ∧ ixN xs.length k = some j ∧ Q (upd H p (.lst (xs.set j v)))
theorem set_list : PSet X rSetL := by
  intro pins s σ H o i v ov iv u Q I ro ri rv h
  obtain ⟨p, xs, k, j, rfl, rfl, hp, hj, q⟩ := h
  cases ro
  obtain ⟨t, rfl⟩ := ri
  obtain ⟨its, n, r, ho, hz⟩ := I.lst hp
  obtain ⟨h1, h2, h3, h4⟩ := ixN_seq hj
  have hl := r.length
  have hn := line63
  have I' : Inv X pins σ (upd H p (.lst (xs.set j v))) { s with heap := s.heap.update p (Obj.mapSeq (·.setIfInBounds j u)) } :=
    I.lstUpd hp ho (mapSeq_set its n j u) (r.set rv j) (by rw [List.length_set]; exact hz) s.toks
  by_cases h0 : 0 ≤ k
  · have hk : k.toNat = j := by
      rw [seqIndex_of h0 h4] at h1
      exact Option.some.inj h1
    exact PySem.W.ki_setAt ho h0 (by omega) (by rw [List.size_toArray, ← hl]; exact h4) (by rw [hk]; exact ⟨_, I', q⟩)
  · have hk : (k + (its.toArray.size : Int)).toNat = j := by
      rw [seqIndex_neg (by omega) h3] at h1
      rw [List.size_toArray, ← hl]
      exact Option.some.inj h1
    exact PySem.W.ki_setBack ho (by omega) (by rw [List.size_toArray, ← hl]; exact h3) (by omega) (by rw [hk]; exact ⟨_, I', q⟩)

/-! ### slices -/
theorem slice_bounds (lo hi : Option Int) (n : Nat) : (sliceBounds lo hi none n).1 = ((HT.sIx n 0 lo : Nat) : Int) ∧ (sliceBounds lo hi none n).2.1 = ((HT.sIx n n hi : Nat) : Int) ∧ (sliceBounds lo hi none n).2.2 = 1 := by
  refine ⟨?_, ?_, rfl⟩
  · cases lo with
    | none => simp [sliceBounds, HT.sIx]
    | some i =>
      simp only [sliceBounds, HT.sIx, Option.getD_none, show (1 : Int) > 0 by decide, if_true]
      by_cases h : i < 0
      · simp only [h, if_true] <;> omega
      · simp only [h, if_false] <;> omega
  · cases hi with
    | none => simp [sliceBounds, HT.sIx]
    | some i =>
      simp only [sliceBounds, HT.sIx, Option.getD_none, show (1 : Int) > 0 by decide, if_true]
      by_cases h : i < 0
      · simp only [h, if_true] <;> omega
      · simp only [h, if_false] <;> omega
theorem slicePick_cut (its : List Value) (lo hi : Option Int) : slicePick its.toArray lo hi none = ((its.drop (HT.sIx its.length 0 lo)).take (HT.sIx its.length its.length hi - HT.sIx its.length 0 lo)).toArray := by
  obtain ⟨h1, h2, h3⟩ := slice_bounds lo hi its.toArray.size
  unfold slicePick
  rw [h1, h2, h3]
  simp only [sliceRange_one, pick_run, List.size_toArray] <;> rfl
/-- xs[lo:hi] of a list: a new list -/
def rSlL (K : PySem.W.Frag) : V → Option Int → Option Int → Hp → VK → Prop := fun x lo hi H Q => ∃ a xs, x = .ref a ∧ SqL K H a xs ∧ ∀ p, H p = none → Q (.ref p) (upd H p (.lst (cutV xs lo hi)))
theorem sl_list : SlR X (rSlL X.K) := by
  intro pins s σ H x v vl vu lo hi sl Q I rx hs pl pu h
  obtain ⟨a, xs, rfl, hx, q⟩ := h
  cases rx
  obtain ⟨its, r, ht, hz⟩ := I.list hx
  have hlen := r.length
  refine ⟨"list", _, slot_list_getitem.lookup, ht.isList.typeIs, ?_⟩
  refine wpAny_getItem_list_slice ht.isList hs pl pu .none (by simp) ?_ (by rw [List.size_toArray] <;> omega)
  rw [slicePick_cut, ← hlen]
  refine ⟨.ref s.heap.objs.size, _, I.laid (t' := s.toks) (o := .lst (cutV xs lo hi)) (fun b ob q => Heap.get?_push_of_some _ q) (Nat.le_refl _) ?_, rfl, q _ (I.hok.fresh (Nat.le_refl _))⟩
  exact ⟨Nat.le_trans (cutV_length xs lo hi) hz, _, 0, (r.drop (HT.sIx xs.length 0 lo)).take (HT.sIx xs.length xs.length hi - HT.sIx xs.length 0 lo), Heap.get?_push_size _ rfl⟩

/-! ### in, not in: flat items -/
def flatV : V → Bool
  | .non => true
  | .bl _ => true
  | .int _ => true
  | .str _ => true
  | _ => false
/-- == of flat values -/
def eqV : V → V → Bool
  | .non, .non => true
  | .bl a, .bl b => a == b
  | .bl a, .int b => (if a then 1 else 0) == b
  | .int a, .bl b => a == (if b then 1 else 0)
  | .int a, .int b => a == b
  | .str a, .str b => a == b
  | _, _ => false
theorem eqAt_V {A : Around} {s : Shared} {y x : V} {u v : Value} (ry : RelV y u) (rx : RelV x v) (fy : flatV y = true) (fx : flatV x = true) : SeqAt.EqAt A s u v (eqV y x) := by
  cases y with
  | non =>
    cases ry
    cases x with
    | non => cases rx; exact SeqAt.EqAt.same _
    | bl b => cases rx; exact SeqAt.EqAt.none_bool b
    | int b => obtain ⟨t, rfl⟩ := rx; exact SeqAt.EqAt.none_int b t
    | str b => obtain ⟨t, rfl⟩ := rx; exact SeqAt.EqAt.none_str b t
    | _ => exact absurd (show false = true from fx) Bool.false_ne_true
  | bl a =>
    cases ry
    cases x with
    | non => cases rx; exact SeqAt.EqAt.bool_none a
    | bl b => cases rx; exact SeqAt.EqAt.bool_bool a b
    | int b => obtain ⟨t, rfl⟩ := rx; exact SeqAt.EqAt.bool_int a b t
    | str b => obtain ⟨t, rfl⟩ := rx; exact SeqAt.EqAt.bool_str a b t
    | _ => exact absurd (show false = true from fx) Bool.false_ne_true
  | int a =>
    obtain ⟨t', rfl⟩ := ry
    cases x with
    | non => cases rx; exact SeqAt.EqAt.int_none a t'
    | bl b => cases rx; exact SeqAt.EqAt.int_bool a t' b
    | int b => obtain ⟨t, rfl⟩ := rx; exact SeqAt.EqAt.int_int a t' b t
    | str b => obtain ⟨t, rfl⟩ := rx; exact SeqAt.EqAt.int_str a t' b t
    | _ => exact absurd (show false = true from fx) Bool.false_ne_true
  | str a =>
    obtain ⟨t', rfl⟩ := ry
    cases x with
    | non => cases rx; exact SeqAt.EqAt.str_none a t'
    | bl b => cases rx; exact SeqAt.EqAt.str_bool a t' b
    | int b => obtain ⟨t, rfl⟩ := rx; exact SeqAt.EqAt.str_int a t' b t
    | str b => obtain ⟨t, rfl⟩ := rx; exact SeqAt.EqAt.str_str a t' b t
    | _ => exact absurd (show false = true from fx) Bool.false_ne_true
  | _ => exact absurd (show false = true from fy) Bool.false_ne_true
/-- the items' answers, read off the values (a value's own answer does not lean on its token) -/
def eqU (x : V) (u : Value) : Bool := match u with
  | .none => eqV .non x
  | .bool b => eqV (.bl b) x
  | .int i _ => eqV (.int i) x
  | .str z _ => eqV (.str z) x
  | _ => false
theorem eqU_of {x y : V} {u : Value} (r : RelV y u) (f : flatV y = true) : eqU x u = eqV y x := by
  cases y with
  | non => cases r; rfl
  | bl b => cases r; rfl
  | int i => obtain ⟨t, rfl⟩ := r; rfl
  | str z => obtain ⟨t, rfl⟩ := r; rfl
  | _ => exact absurd (show false = true from f) Bool.false_ne_true
theorem any_eqU {x : V} : ∀ {xs : List V} {us : List Value}, Vals xs us → xs.all flatV = true → us.any (eqU x) = xs.any fun y => eqV y x
  | _, _, .nil, _ => rfl
  | y :: xs, u :: us, .cons r t, f => by
    rw [List.all_cons, Bool.and_eq_true] at f
    rw [List.any_cons, List.any_cons, eqU_of r f.1, any_eqU t f.2]
theorem mem_eqAt {A : Around} {s : Shared} {x : V} {v : Value} (rx : RelV x v) (fx : flatV x = true) : ∀ {xs : List V} {us : List Value}, Vals xs us → xs.all flatV = true → ∀ u ∈ us, SeqAt.EqAt A s u v (eqU x u)
  | _, _, .nil, _ => fun u hu => by cases hu
  | y :: xs, u :: us, .cons r t, f => fun u' hu => by
    rw [List.all_cons, Bool.and_eq_true] at f
    rcases List.mem_cons.mp hu with rfl | hu
    · rw [eqU_of r f.1]; exact eqAt_V r rx f.1 fx
    · exact mem_eqAt rx fx t f.2 u' hu
def inV (x : V) (xs : List V) : Bool := xs.any fun y => eqV y x
/-- x in a list or tuple of flat items -/
def rIn (K : PySem.W.Frag) (neg : Bool) : R2 := fun x y H Q => ∃ p xs, y = .ref p ∧ (SqL K H p xs ∨ SqT K H p xs) ∧ flatV x = true ∧ xs.all flatV = true ∧ Q (.bl (if neg then !inV x xs else inV x xs)) H
theorem op_in_seq : OpR X (compareOp .In) (rIn X.K false) := by
  intro pins s σ H x y v u Q I rx ry h
  obtain ⟨p, xs, rfl, hq, fx, fs, q⟩ := h
  cases ry
  rcases hq with hq | hq
  · obtain ⟨its, r, pl, hz⟩ := I.list hq
    refine SeqAt.in_listAt (eqU x) pl.isList (fun w hw => mem_eqAt rx fx r fs w (by simpa using hw)) ⟨.bl _, H, I, rfl, ?_⟩
    rw [show its.toArray.any (eqU x) = its.any (eqU x) by simp, any_eqU r fs]
    exact q
  · obtain ⟨its, r, pl, hz⟩ := I.tuple hq
    refine SeqAt.in_tupleAt (eqU x) pl (fun w hw => mem_eqAt rx fx r fs w (by simpa using hw)) ⟨.bl _, H, I, rfl, ?_⟩
    rw [show its.toArray.any (eqU x) = its.any (eqU x) by simp, any_eqU r fs]
    exact q

/-! ### len, list(x), tuple(x) of any list or tuple that is read -/
theorem call_len_seq : CallR X (.builtin "len") (fun xs H Q => ∃ p ys, xs = [.ref p] ∧ (SqL X.K H p ys ∨ SqT X.K H p ys) ∧ Q (.int ys.length) H) := by
  intro pins s σ H xs us Q I r h
  obtain ⟨p, ys, rfl, hq, q⟩ := h
  obtain ⟨u, rfl, rx⟩ := vals1 r
  cases rx
  have hn := line63
  rcases hq with hq | hq
  · obtain ⟨its, r', pl, hz⟩ := I.list hq
    have hlen := r'.length
    exact Calls.call_len_list pl.isList (by simp only [List.size_toArray] <;> omega) ⟨.int ys.length, H, I.tok _, ⟨s.toks + 1, by rw [List.size_toArray, hlen]⟩, q⟩
  · obtain ⟨its, r', pl, hz⟩ := I.tuple hq
    have hlen := r'.length
    exact len_tuple pl (by simp only [List.size_toArray] <;> omega) ⟨.int ys.length, H, I.tok _, ⟨s.toks + 1, by rw [List.size_toArray, hlen]⟩, q⟩
theorem call_list_of : CallR X (.type "list") (fun xs H Q => ∃ p ys, xs = [.ref p] ∧ (SqL X.K H p ys ∨ SqT X.K H p ys) ∧ ∀ l, H l = none → Q (.ref l) (upd H l (.lst ys))) := by
  intro pins s σ H xs us Q I r h
  obtain ⟨p, ys, rfl, hq, q⟩ := h
  obtain ⟨u, rfl, rx⟩ := vals1 r
  cases rx
  have fin : ∀ (its : List Value), Vals ys its → ys.length ≤ sizeLine → ∀ (h' : Heap) (c' : Nat), (∀ b o', s.heap.get? b = some o' → h'.get? b = some o') →
      h'.get? s.heap.objs.size = some { cls := .type "list", dict := none, data := .seq its.toArray c', slots := #[] } → EP X pins σ Q (.ref s.heap.objs.size) { s with heap := h' } := fun its r' hz h' c' kp e =>
    ⟨.ref s.heap.objs.size, _, I.laid (t' := s.toks) kp (Nat.le_refl _) (show ObjOk X.prog X.w _ h' _ (.lst ys) from ⟨hz, its, c', r', e⟩), rfl, q _ (I.hok.fresh (Nat.le_refl _))⟩
  rcases hq with hq | hq
  · obtain ⟨its, r', pl, hz⟩ := I.list hq
    have hlen := r'.length
    obtain ⟨o, ho, hc, n, hd⟩ := pl.isList
    exact call_list_seq p (.inl rfl) ho hc hd (fun h' c' kp e => fin its r' hz h' c' kp e) (by simp only [List.size_toArray] <;> omega)
  · obtain ⟨its, r', pl, hz⟩ := I.tuple hq
    have hlen := r'.length
    obtain ⟨o, ho, hc, n, hd⟩ := pl
    exact call_list_seq p (.inr rfl) ho hc hd (fun h' c' kp e => fin its r' hz h' c' kp e) (by simp only [List.size_toArray] <;> omega)

/-! ### the call of a builtin's method: o.m(..) -/
/-- the value is of that builtin type -/
def tyV (K : PySem.W.Frag) (T : String) (x : V) (H : Hp) : Prop := match x with
  | .str _ => T = "str"
  | .int _ => T = "int"
  | .ref p => (T = "list" ∧ ∃ xs, SqL K H p xs) ∨ (T = "tuple" ∧ ∃ o, K.lookup p = some o ∧ o.cls = .type "tuple" ∧ o.dict = none) ∨
      (T = "dict" ∧ ((∃ kvs, H p = some (.dK kvs)) ∨ ∃ kvs, H p = some (.dT kvs))) ∨ (T = "set" ∧ ∃ S n, H p = some (.set S n))
  | _ => False
theorem tyV_is {pins : List (Addr × Obj)} {σ : St} {H : Hp} {s : Shared} {T : String} {x : V} {v : Value} (I : Inv X pins σ H s) (r : RelV x v) (ty : tyV X.K T x H) :
    s.TypeIs v T ∧ ∀ a, v = .ref a → ∃ ob, s.heap.get? a = some ob ∧ ob.dict = none := by
  cases x with
  | str z =>
    obtain ⟨t, rfl⟩ := r
    cases (show T = "str" from ty)
    exact ⟨typeIs_str s z t, fun _ e => nomatch e⟩
  | int i =>
    obtain ⟨t, rfl⟩ := r
    cases (show T = "int" from ty)
    exact ⟨typeIs_int s i t, fun _ e => nomatch e⟩
  | ref p =>
    cases r
    rcases ty with ⟨rfl, xs, hq⟩ | ⟨rfl, o, hk, hc, hd⟩ | ⟨rfl, hk⟩ | ⟨rfl, S, n, hk⟩
    · obtain ⟨its, _, pl, _⟩ := I.list hq
      refine ⟨pl.isList.typeIs, fun a e => ?_⟩
      cases e
      obtain ⟨o, n, e, c, hd, _⟩ := pl
      exact ⟨o, e, hd⟩
    · refine ⟨⟨o, I.kIn p o hk, hc⟩, fun a e => ?_⟩
      cases e
      exact ⟨o, I.kIn _ o hk, hd⟩
    · have z : ∃ o, s.heap.get? p = some o ∧ o.ExactDict := by
        rcases hk with ⟨kvs, hk⟩ | ⟨kvs, hk⟩
        · obtain ⟨_, _, _, _, o, _, _, e, ex, _⟩ := I.hok p _ hk
          exact ⟨o, e, ex⟩
        · obtain ⟨_, _, _, _, o, _, _, e, ex, _⟩ := I.hok p _ hk
          exact ⟨o, e, ex⟩
      obtain ⟨o, e, ex⟩ := z
      refine ⟨⟨o, e, ex.1⟩, fun a e2 => ?_⟩
      cases e2
      exact ⟨o, e, ex.2.1⟩
    · obtain ⟨o, _, _, _, e, ex, _⟩ := I.hok p _ hk
      refine ⟨⟨o, e, ex.1⟩, fun a e2 => ?_⟩
      cases e2
      exact ⟨o, e, ex.2.1⟩
  | _ => exact False.elim ty
def tBM0 (K : PySem.W.Frag) (T : String) (r : V → List V → Hp → VK → Prop) (to : TE) : TE := fun σ H Q => to σ H fun x H1 => tyV K T x H1 ∧ r x [] H1 Q
def tBM (K : PySem.W.Frag) (T : String) (r : V → List V → Hp → VK → Prop) (to : TE) (t : TA) : TE := fun σ H Q => to σ H fun x H1 => tyV K T x H1 ∧ t σ H1 fun xs H2 => r x xs H2 Q
variable {o e : Expr} {es : List Expr} {to : TE} {t : TA} {name : Str} {apos cpos : Pos} {T id : String} {r : V → List V → Hp → VK → Prop}
theorem pe_bm0 (pa : PlainAttrs T) (slot : Slot T name id) (hty : typeOf (.builtin id) = pure (.type "method_descriptor")) (hm : MtR X id r) (ho : PE X o to)
    (hbase : attributeBase o name X.env (eval o X.env) = eval o X.env := by rfl) (hline : (apos.endLine == cpos.line) = true := by rfl) : PE X (.Call (.Attribute o name apos) [] [] cpos) (tBM0 X.K T r to) := by
  intro pins s σ H Q I h
  refine wpAny_Call_method0_late hbase hline (thn (ho pins s σ H _ I h) fun v s1 ⟨x, H1, I1, r1, ty, q1⟩ => ?_)
  obtain ⟨h1, h2⟩ := tyV_is I1 r1 ty
  exact ⟨T, id, pa, slot, hty, h1, h2, Calls.callWith_builtin rfl (PySem.evalArgs_none (hm pins s1 σ H1 x [] v [] Q I1 r1 .nil q1))⟩
theorem pe_bm (pa : PlainAttrs T) (slot : Slot T name id) (hty : typeOf (.builtin id) = pure (.type "method_descriptor")) (hm : MtR X id r) (ho : PE X o to) (ha : PA X (e :: es) t)
    (hbase : attributeBase o name X.env (eval o X.env) = eval o X.env := by rfl)
    (hfew : ((backTo cpos (starEach (e :: es) X.env)).all (fun x => !x.1) && (backToKw cpos (keywordEach [] X.env)).all (fun x => x.1.isSome)
      && decide ((e :: es).length + ([] : List Keyword).length + (if ([] : List Keyword).isEmpty then 0 else 1) < 30)) = true := by rfl)
    (hline : (apos.endLine == cpos.line) = true := by rfl) (hs : starEach (e :: es) X.env = (false, eval e X.env) :: starEach es X.env := by rfl) (hplain : (backTo cpos (starEach es X.env)).any (·.1) = false := by rfl) :
    PE X (.Call (.Attribute o name apos) (e :: es) [] cpos) (tBM X.K T r to t) := by
  intro pins s σ H Q I h
  refine wpAny_Call_method_late hbase hfew hline rfl (thn (ho pins s σ H _ I h) fun v s1 ⟨x, H1, I1, r1, ty, q1⟩ => ?_)
  obtain ⟨h1, h2⟩ := tyV_is I1 r1 ty
  refine ⟨T, id, pa, slot, hty, h1, h2, ?_⟩
  have hA := ha cpos pins s1 σ H1 _ I1 q1
  rw [hs] at hA ⊢
  refine Calls.callWith_builtin (by show (false || (backTo cpos (starEach es X.env)).any (·.1)) = false; rw [hplain] <;> rfl) (Calls.evalArgs_plain ?_)
  exact thn hA fun us s2 ⟨vs, H2, I2, r2, q2⟩ => hm pins s2 σ H2 x vs v us Q I2 r1 r2 q2
/- xs.append(e), list.index on a module's tuple .. are MtR facts of 06m -/
end
end L2

namespace L2
open PySem PySem.Spec PyProof.Rows

def MtM (X : Cx) (id : String) (r : V → List V → Hp → VK → Prop) : Prop :=
  ∀ (pins : List (Addr × Obj)) (s : Shared) (σ : St) (H : Hp) (x : V) (xs : List V) (v : Value) (us : List Value) (Q : VK), Inv X pins σ H s → RelV x v → Vals xs us → r x xs H Q →
    wpAny (model X.prog X.w) X.A (call (.builtin id) (v :: us)) (EP X pins σ Q) X.xe s

/-! ### lists of values -/
theorem Vals.one : ∀ {x : V} {us : List Value}, Vals [x] us → ∃ u, us = [u] ∧ RelV x u
  | _, _, .cons r .nil => ⟨_, rfl, r⟩
theorem Vals.zero : ∀ {us : List Value}, Vals [] us → us = []
  | _, .nil => rfl
theorem Vals.dropLast {xs : List V} {us : List Value} (h : Vals xs us) : Vals xs.dropLast us.dropLast := by
  induction h with
  | nil => exact .nil
  | cons r t ih =>
    cases t with
    | nil => exact .nil
    | cons q t' => exact .cons r ih
theorem Vals.rep {xs : List V} {us : List Value} (h : Vals xs us) : ∀ k : Nat, Vals (List.replicate k xs).flatten (List.replicate k us).flatten
  | 0 => .nil
  | k + 1 => by
    rw [List.replicate_succ, List.replicate_succ, List.flatten_cons, List.flatten_cons]
    exact Vals.append h (Vals.rep h k)
theorem erase_last {α : Type} (l : List α) : l.eraseIdx (l.length - 1) = l.dropLast := by
  induction l with
  | nil => rfl
  | cons a r ih =>
    cases r with
    | nil => rfl
    | cons b r =>
      have e : (a :: b :: r).length - 1 = ((b :: r).length - 1) + 1 := by
        have h1 : (a :: b :: r).length = r.length + 2 := rfl
        have h2 : (b :: r).length = r.length + 1 := rfl
        omega
      rw [e, List.eraseIdx_cons_succ, ih]
      all_goals rfl
theorem foldl_rep (its : List Value) : ∀ (k : Nat) (acc : List Value),
    List.foldl (fun x1 x2 => x1 ++ x2) acc.toArray (List.replicate k its.toArray) = (acc ++ (List.replicate k its).flatten).toArray
  | 0, acc => by simp
  | k + 1, acc => by
    have e : acc.toArray ++ its.toArray = (acc ++ its).toArray := by simp
    have e2 : (acc ++ its) ++ (List.replicate k its).flatten = acc ++ (List.replicate (k + 1) its).flatten := by
      rw [List.replicate_succ, List.flatten_cons, List.append_assoc]
    rw [← e2, ← foldl_rep its k (acc ++ its), ← e, List.replicate_succ, List.foldl_cons]

section
variable {X : Cx} {pins : List (Addr × Obj)} {σ : St} {H : Hp} {s : Shared} {l b : Addr} {xs ys zs : List V}

/-! ### the two steps: a tracked list is rewritten, a new list is laid -/
theorem Inv.lset {its its' : List Value} {n : Nat} {f : Array Value → Array Value} {t' : Nat} (I : Inv X pins σ H s) (hH : H l = some (.lst xs))
    (e : s.heap.get? l = some { cls := .type "list", data := .seq its.toArray n }) (hf : f its.toArray = its'.toArray) (hv : Vals ys its') (hz : ys.length ≤ sizeLine) :
    Inv X pins σ (upd H l (.lst ys)) { s with heap := s.heap.update l (Obj.mapSeq f), toks := t' } := by
  have q := PySem.IsL.update e f
  rw [hf] at q
  refine I.write (x := l) (e := l) (by rw [hH]; exact trivial) (.inl rfl) (fun b' u hb hu => (Heap.get?_update_other s.heap (Obj.mapSeq f) (Ne.symm hb)).trans hu) ⟨_, q⟩ ?_
  exact ⟨hz, its', _, hv, q⟩
theorem Inv.lnew {its : List Value} {t' : Nat} (I : Inv X pins σ H s) (hv : Vals ys its) (hz : ys.length ≤ sizeLine) :
    Inv X pins σ (upd H s.heap.objs.size (.lst ys)) { s with heap := s.heap.push { cls := .type "list", data := .seq its.toArray }, toks := t' } :=
  I.laid (fun _ _ q => Heap.get?_push_of_some _ q) (Nat.le_refl _) ⟨hz, its, 0, hv, Heap.get?_push_size _ rfl⟩
theorem Inv.fresh (I : Inv X pins σ H s) : H s.heap.objs.size = none := I.hok.fresh (Nat.le_refl _)
theorem Inv.lstM (I : Inv X pins σ H s) (hH : H l = some (.lst xs)) : xs.length ≤ sizeLine ∧ ∃ (its : List Value) (n : Nat), Vals xs its ∧ xs.length = its.length ∧ s.heap.get? l = some { cls := .type "list", data := .seq its.toArray n } := by
  obtain ⟨z, its, n, r, e⟩ := I.hok l _ hH
  exact ⟨z, its, n, r, r.length, e⟩

theorem notLongL {n : Nat} (h : n ≤ sizeLine) : Builtin.List.listTooLong n = false := by
  unfold Builtin.List.listTooLong
  exact decide_eq_false (by omega)
end

section
variable {X : Cx}

/-! ### methods -/
def rAppend : V → List V → Hp → VK → Prop := fun x vs H Q => ∃ l xs y, x = .ref l ∧ vs = [y] ∧ H l = some (.lst xs) ∧ xs.length < sizeLine ∧ Q .non (upd H l (.lst (xs ++ [y])))
theorem mt_append : MtM X "list.append" rAppend := by
  intro pins s σ H x vs v us Q I rx rv h
  obtain ⟨l, xs, y, rfl, rfl, hH, hz, q⟩ := h
  cases rx
  obtain ⟨u, rfl, ru⟩ := rv.one
  obtain ⟨z, its, n, r, hl, e⟩ := I.lstM hH
  refine call_meets F.slot_list_append ⟨_, e, rfl⟩ F.entry_list_append (F.args_list_append_2 _ _) (PySem.list_append l its.toArray n u (by rw [List.size_toArray]; omega)) ⟨e, ?_⟩
  refine ⟨.non, _, I.lset (its' := its ++ [u]) hH e (by simp) (r.append (.cons ru .nil)) ?_, rfl, q⟩
  rw [List.length_append, List.length_singleton]
  omega

def rExtend : V → List V → Hp → VK → Prop := fun x vs H Q => ∃ l b xs zs, x = .ref l ∧ vs = [.ref b] ∧ H l = some (.lst xs) ∧ H b = some (.lst zs) ∧ xs.length + zs.length ≤ sizeLine ∧ Q .non (upd H l (.lst (xs ++ zs)))
theorem mt_extend : MtM X "list.extend" rExtend := by
  intro pins s σ H x vs v us Q I rx rv h
  obtain ⟨l, b, xs, zs, rfl, rfl, hH, hB, hz, q⟩ := h
  cases rx
  obtain ⟨u, rfl, ru⟩ := rv.one
  cases ru
  obtain ⟨z, its, n, r, hl, e⟩ := I.lstM hH
  obtain ⟨z2, its2, n2, r2, hl2, e2⟩ := I.lstM hB
  have hsz : its.toArray.size + its2.toArray.size ≤ sizeLine := by rw [List.size_toArray, List.size_toArray]; omega
  have hlong : ¬ (!its.toArray.isEmpty && Builtin.List.listTooLong (its.toArray.size + its2.toArray.size)) = true := by
    rw [notLongL hsz, Bool.and_false]
    exact Bool.false_ne_true
  refine call_meets F.slot_list_extend ⟨_, e, rfl⟩ F.entry_list_extend (F.args_list_extend_2 _ _)
    (AutoSeq1.list_extend_list_list_0 l its.toArray n b its2.toArray n2 hlong (by rw [List.size_toArray]; omega) (by omega)) ⟨e, e2, ?_⟩
  refine ⟨.non, _, I.lset (its' := its ++ its2) hH e (by simp) (r.append r2) ?_, rfl, q⟩
  rw [List.length_append]
  omega

def rPop : V → List V → Hp → VK → Prop := fun x vs H Q => ∃ l xs y, x = .ref l ∧ vs = [] ∧ H l = some (.lst xs) ∧ xs[xs.length - 1]? = some y ∧ Q y (upd H l (.lst xs.dropLast))
theorem mt_pop : MtM X "list.pop" rPop := by
  intro pins s σ H x vs v us Q I rx rv h
  obtain ⟨l, xs, y, rfl, rfl, hH, hy, q⟩ := h
  cases rx
  have hus := rv.zero
  subst hus
  obtain ⟨z, its, n, r, hl, e⟩ := I.lstM hH
  obtain ⟨u, hu, ru⟩ := r.get hy
  have hy' : its.toArray[its.toArray.size - 1]? = some u := by
    show its.toArray[its.length - 1]? = some u
    rw [← Array.getElem?_toList, ← hl]
    exact hu
  refine call_meets F.slot_list_pop ⟨_, e, rfl⟩ F.entry_list_pop (F.args_list_pop_1 _) (MeetsSeq.list_pop_last l its.toArray n u hy' (by rw [List.size_toArray]; omega)) ⟨e, ?_⟩
  refine ⟨y, _, I.lset (its' := its.dropLast) hH e ?_ r.dropLast ?_, ru, q⟩
  · show its.toArray.eraseIdxIfInBounds (its.toArray.size - 1) = its.dropLast.toArray
    rw [List.size_toArray, List.eraseIdxIfInBounds_toArray, erase_last]
  · rw [List.length_dropLast]
    omega

/-! ### list + list, list += list, list * int -/
def rCat : R2 := fun x y H Q => ∃ l b xs zs, x = .ref l ∧ y = .ref b ∧ H l = some (.lst xs) ∧ H b = some (.lst zs) ∧ xs.length + zs.length ≤ sizeLine ∧ ∀ p, H p = none → Q (.ref p) (upd H p (.lst (xs ++ zs)))
theorem op_cat : OpR X (binaryOp .Add) rCat := by
  intro pins s σ H x y v u Q I rx ry h
  obtain ⟨l, b, xs, zs, rfl, rfl, hH, hB, hz, q⟩ := h
  cases rx
  cases ry
  obtain ⟨z, its, n, r, hl, e⟩ := I.lstM hH
  obtain ⟨z2, its2, n2, r2, hl2, e2⟩ := I.lstM hB
  refine PySem.P.add_list e e2 ?_ (by rw [List.size_toArray, List.size_toArray]; omega)
  have ea : its.toArray ++ its2.toArray = (its ++ its2).toArray := by simp
  rw [ea]
  exact ⟨.ref _, _, I.lnew (t' := s.toks) (r.append r2) (by rw [List.length_append]; omega), rfl, q _ I.fresh⟩
/-- a list times an int (a negative one is nothing) -/
def rRep : R2 := fun x y H Q => ∃ l k xs, x = .ref l ∧ y = .int k ∧ H l = some (.lst xs) ∧ -(2 ^ 63) ≤ k ∧ k < 2 ^ 63 ∧ xs.length * k.toNat ≤ sizeLine ∧
  ∀ p, H p = none → Q (.ref p) (upd H p (.lst (List.replicate k.toNat xs).flatten))
theorem len_rep {α : Type} (xs : List α) (k : Nat) : (List.replicate k xs).flatten.length = k * xs.length := by
  induction k with
  | zero => simp
  | succ k ih => rw [List.replicate_succ, List.flatten_cons, List.length_append, ih, Nat.succ_mul, Nat.add_comm]
theorem op_rep : OpR X (binaryOp .Mult) rRep := by
  intro pins s σ H x y v u Q I rx ry h
  obtain ⟨l, k, xs, rfl, rfl, hH, h1, h2, hz, q⟩ := h
  cases rx
  obtain ⟨t, rfl⟩ := ry
  obtain ⟨z, its, n, r, hl, e⟩ := I.lstM hH
  have hlen : its.toArray.size * k.toNat ≤ sizeLine := by rw [List.size_toArray, ← hl]; exact hz
  have hcap : ¬ its.toArray.size * k.toNat > (2 ^ 63 - 1) / 8 := by
    have : (sizeLine : Nat) ≤ (2 ^ 63 - 1) / 8 := by decide
    omega
  have hfit : ¬ (!Builtin.List.listFitsIndex k) = true := by
    rw [fitsIndex_both h1 h2]
    exact Bool.false_ne_true
  have hlong : ¬ Builtin.List.listTooLong (its.toArray.size * k.toNat) = true := by
    rw [notLongL hlen]
    exact Bool.false_ne_true
  have hnew : List.foldl (fun x1 x2 => x1 ++ x2) #[] (List.replicate (if its.toArray.isEmpty = true then 0 else k.toNat) its.toArray) = (List.replicate k.toNat its).flatten.toArray := by
    have f0 : ∀ m : Nat, List.foldl (fun x1 x2 => x1 ++ x2) #[] (List.replicate m its.toArray) = (List.replicate m its).flatten.toArray := fun m => by
      have := foldl_rep its m []
      rw [List.nil_append] at this
      exact this
    rw [f0]
    cases its with
    | nil => simp
    | cons a r' => rw [if_neg (by simp)]
  refine wpAny_binaryOp_repeat_ref (T := "list") (U := "int") (by decide) ⟨_, e, rfl⟩ (fun s' => typeIs_int s' k t) noFill_list_mul F.fills_int_mul F.slot_int_rmul repeat_list F.slot_int_index.lookup
    (call_meets F.slot_int_rmul (typeIs_int s k t) F.entry_int_rmul (F.args_int_rmul_2 _ _) (int___rmul___int_list k t l its.toArray n)
      ⟨e, rfl, ⟨_, e, rfl⟩, call_meets F.slot_list_mul ⟨_, e, rfl⟩ F.entry_list_mul (F.args_list_mul_2 _ _) (AutoListH.list___mul___list_int_3 l its.toArray n k t hfit hcap hlong) ⟨e, ?_⟩⟩)
  rw [hnew]
  exact ⟨.ref _, _, I.lnew (t' := s.toks) (r.rep k.toNat) (by rw [len_rep, Nat.mul_comm]; exact hz), rfl, q _ I.fresh⟩

/-! ### del xs[i] -/
end

/-! ### xs[a:b] = ys -/
section
variable {prog : Program} {w : World} {A : Around} {E : Value → Shared → Prop} {s : Shared}
set_option maxRecDepth 100000 in
end

section
variable {X : Cx}
end
end L2

namespace L2
open PySem PySem.Spec PyProof.Rows

theorem Vals.ints : ∀ {ns : List Int} {us : List Value}, Vals (ns.map V.int) us → IntsAre us ns
  | [], us, h => by
    rw [List.map_nil] at h
    cases h
    exact IntsAre.nil
  | n :: ns, us, h => by
    rw [List.map_cons] at h
    cases h with
    | cons r t =>
      obtain ⟨k, rfl⟩ := r
      exact IntsAre.cons n k (Vals.ints t)
theorem Vals.bls : ∀ {bs : List Bool} {us : List Value}, Vals (bs.map V.bl) us → us = bs.map Value.bool
  | [], us, h => by
    rw [List.map_nil] at h
    cases h
    rfl
  | b :: bs, us, h => by
    rw [List.map_cons] at h
    cases h with
    | cons r t =>
      cases r
      rw [Vals.bls t, List.map_cons]
theorem Vals.ref1 {a : Addr} {us : List Value} (r : Vals [V.ref a] us) : us = [Value.ref a] := by
  cases r with
  | cons r t =>
    cases t
    cases r
    rfl

/-! ### the library's walks over a list of ints, kept objects alone -/
section
variable {prog : Program} {w : World} {A : Around} {E : Value → Shared → Prop} {s : Shared} {l : Addr} {its : List Value} {ns : List Int} {Q : Value → Shared → Prop}
theorem sum_raw (hh : A.handled = none) (hl : s.heap.IsList l its.toArray) (hi : IntsAre its ns)
    (h : ∀ h' tk t', (∀ b o, s.heap.get? b = some o → h'.get? b = some o) → Q (.int ns.sum t') { s with heap := h', toks := tk }) : wpAny (model prog w) A (call (.builtin "sum") [.ref l]) Q E s := by
  obtain ⟨xs, e⟩ := hi.allInts.items
  have hn : numsOf (intItems xs).toList = ns := by rw [← e]; exact hi.numsOf
  rw [nums_intItems] at hn
  rw [e] at hl
  refine PySem.sum_intListG hh hl fun h' tk t' hk => ?_
  have := h h' tk t' hk
  rw [preSum_eq, List.take_of_length_le (by simp), hn]; exact this
theorem max_raw (hh : A.handled = none) (hl : s.heap.IsList l its.toArray) (hi : IntsAre its ns) (hne : 0 < ns.length)
    (h : ∀ h' tk M t', (∀ b o, s.heap.get? b = some o → h'.get? b = some o) → M ∈ ns → (∀ a, a ∈ ns → a ≤ M) → Q (.int M t') { s with heap := h', toks := tk }) : wpAny (model prog w) A (call (.builtin "max") [.ref l]) Q E s := by
  obtain ⟨xs, e⟩ := hi.allInts.items
  have hn : numsOf (intItems xs).toList = ns := by rw [← e]; exact hi.numsOf
  rw [nums_intItems] at hn
  subst hn
  rw [e] at hl
  have hsz : 0 < xs.size := by simpa using hne
  refine PySem.max_intList hh hl hsz fun v h' tk hv hk => ?_
  obtain ⟨t, rfl⟩ := intItems_at hv
  obtain ⟨h1, h2⟩ := argBest_gt (numAt xs) (xs.size - 1)
  refine h h' tk _ t hk ?_ fun a ha => ?_
  · rw [numAt_eq]; exact PySem.getD_mem (by rw [List.length_map, Array.length_toList]; omega)
  · obtain ⟨j, hj, rfl⟩ := mem_getD ha
    rw [List.length_map, Array.length_toList] at hj
    rw [← numAt_eq]; exact h2 j (by omega)
theorem min_raw (hh : A.handled = none) (hl : s.heap.IsList l its.toArray) (hi : IntsAre its ns) (hne : 0 < ns.length)
    (h : ∀ h' tk M t', (∀ b o, s.heap.get? b = some o → h'.get? b = some o) → M ∈ ns → (∀ a, a ∈ ns → M ≤ a) → Q (.int M t') { s with heap := h', toks := tk }) : wpAny (model prog w) A (call (.builtin "min") [.ref l]) Q E s := by
  obtain ⟨xs, e⟩ := hi.allInts.items
  have hn : numsOf (intItems xs).toList = ns := by rw [← e]; exact hi.numsOf
  rw [nums_intItems] at hn
  subst hn
  rw [e] at hl
  have hsz : 0 < xs.size := by simpa using hne
  refine PySem.min_intList hh hl hsz fun v h' tk hv hk => ?_
  obtain ⟨t, rfl⟩ := intItems_at hv
  obtain ⟨h1, h2⟩ := argBest_lt (numAt xs) (xs.size - 1)
  refine h h' tk _ t hk ?_ fun a ha => ?_
  · rw [numAt_eq]; exact PySem.getD_mem (by rw [List.length_map, Array.length_toList]; omega)
  · obtain ⟨j, hj, rfl⟩ := mem_getD ha
    rw [List.length_map, Array.length_toList] at hj
    rw [← numAt_eq]; exact h2 j (by omega)
end

/-! ### the calls, by values (CallR of 03t; MtR of 06l) -/
section
variable {X : Cx}
/-- sum(xs) of a list of ints -/
def rSum (K : PySem.W.Frag) : List V → Hp → VK → Prop := fun vs H Q => ∃ (a : Addr) (ns : List Int), vs = [V.ref a] ∧ SqL K H a (ns.map V.int) ∧ Q (.int ns.sum) H
/-- max(xs), min(xs) of a list of ints -/
def rMax (K : PySem.W.Frag) : List V → Hp → VK → Prop := fun vs H Q => ∃ (a : Addr) (ns : List Int), vs = [V.ref a] ∧ SqL K H a (ns.map V.int) ∧ 0 < ns.length ∧ ∀ m, m ∈ ns → (∀ y, y ∈ ns → y ≤ m) → Q (.int m) H
def rMin (K : PySem.W.Frag) : List V → Hp → VK → Prop := fun vs H Q => ∃ (a : Addr) (ns : List Int), vs = [V.ref a] ∧ SqL K H a (ns.map V.int) ∧ 0 < ns.length ∧ ∀ m, m ∈ ns → (∀ y, y ∈ ns → m ≤ y) → Q (.int m) H
theorem cr_sum (hc : X.calm = true) : CallR X (.builtin "sum") (rSum X.K) := by
  intro pins s σ H vs us Q I r h
  obtain ⟨a, ns, rfl, hs, q⟩ := h
  obtain ⟨its, rv, hl, _⟩ := I.list hs
  rw [Vals.ref1 r]
  exact sum_raw (I.ok.hd hc) hl.isList rv.ints fun h' tk t' hk => ⟨.int _, H, I.kept hk, ⟨_, rfl⟩, q⟩
theorem cr_max (hc : X.calm = true) : CallR X (.builtin "max") (rMax X.K) := by
  intro pins s σ H vs us Q I r h
  obtain ⟨a, ns, rfl, hs, hne, q⟩ := h
  obtain ⟨its, rv, hl, _⟩ := I.list hs
  rw [Vals.ref1 r]
  exact max_raw (I.ok.hd hc) hl.isList rv.ints hne fun h' tk m t' hk h1 h2 => ⟨.int _, H, I.kept hk, ⟨_, rfl⟩, q m h1 h2⟩
theorem cr_min (hc : X.calm = true) : CallR X (.builtin "min") (rMin X.K) := by
  intro pins s σ H vs us Q I r h
  obtain ⟨a, ns, rfl, hs, hne, q⟩ := h
  obtain ⟨its, rv, hl, _⟩ := I.list hs
  rw [Vals.ref1 r]
  exact min_raw (I.ok.hd hc) hl.isList rv.ints hne fun h' tk m t' hk h1 h2 => ⟨.int _, H, I.kept hk, ⟨_, rfl⟩, q m h1 h2⟩

/-! sorted, sort (fewer than 64 items: the library's own bound) -/
end

/-! ### list.index, flat items -/
section
variable {X : Cx}
end

/-! ### type(x) of an own instance; is, is not of a module's class -/
section
variable {X : Cx}
end

/-! ### any(xs), all(xs) of a list of bools -/
theorem iter_any {prog : Program} {w : World} {A : Around} {E : Value → Shared → Prop} {s : Shared} {l : Addr} {items : Array Value} {Q : Value → Shared → Prop} (hl : s.heap.IsList l items)
    (h : ∀ s₂ : Shared, s₂ = { s with heap := s.heap.push { cls := .type "list_iterator", data := .fields #[.ref l, .int 0 0] } } →
      (s₂.heap.IsListIter s.heap.objs.size l 0 ∧ s₂.heap.IsList l items) → l ≠ s.heap.objs.size → Q (.ref s.heap.objs.size) s₂) : wpAny (model prog w) A (pyIter (.ref l)) Q E s := by
  have hlt : l < s.heap.objs.size := by obtain ⟨_, e, _⟩ := hl; exact Heap.lt_size e
  exact wpAny_pyIter_list hl (h _ rfl ⟨⟨_, Heap.get?_push_size _ rfl, rfl, rfl⟩, hl.push _⟩ (Nat.ne_of_lt hlt))
theorem truth_bools {prog : Program} {w : World} {A : Around} {bs : List Bool} {its : List Value} (e : its = bs.map Value.bool) :
    TruthOf prog w A (fun i v => its.toArray[i]? = some v) (fun i => bs.getD i false) := fun i v s Q E hv hq => by
  have hv' : its[i]? = some v := by simpa using hv
  rw [e, List.getElem?_map] at hv'
  obtain ⟨b, hb, rfl⟩ := Option.map_eq_some_iff.mp hv'
  have hg : bs.getD i false = b := by rw [List.getD_eq_getElem?_getD, hb] <;> rfl
  have hq' : Q (bs.getD i false) s := hq
  rw [hg] at hq'
  exact wpAny_truthy_bool hq'
theorem all_range : ∀ bs : List Bool, (List.range bs.length).all (fun i => bs.getD i false) = bs.all id
  | [] => rfl
  | b :: bs => by
    rw [List.length_cons, List.range_succ_eq_map, List.all_cons, List.all_map, List.all_cons, ← all_range bs]
    all_goals rfl
section
variable {X : Cx}
def rAll (K : PySem.W.Frag) : List V → Hp → VK → Prop := fun vs H Q => ∃ (a : Addr) (bs : List Bool), vs = [V.ref a] ∧ SqL K H a (bs.map V.bl) ∧ Q (.bl (bs.all id)) H
theorem cr_all (hc : X.calm = true) : CallR X (.builtin "all") (rAll X.K) := by
  intro pins s σ H vs us Q I r h
  obtain ⟨a, bs, rfl, hs, q⟩ := h
  obtain ⟨its, rv, hl, _⟩ := I.list hs
  rw [Vals.ref1 r]
  have hb := rv.bls
  refine call_all_walk (iter_any hl.isList fun s₂ e2 st hne => ?_)
  subst e2
  refine ⟨_, _, _, _, _, _, _, rfl, Walks.list (A := X.A.in1) (I.ok.hd hc) _ a hne its.toArray, st, truth_bools hb, fun h' tk hk => ?_⟩
  refine ⟨.bl _, H, I.kept fun b o eo => hk b o (fun hmem => ?_) (Heap.get?_push_of_some _ eo), ?_, q⟩
  · rcases List.mem_cons.mp hmem with e1 | hmem
    · exact absurd (e1 ▸ Heap.lt_size eo) (Nat.lt_irrefl _)
    · cases hmem
  · show Value.bool _ = Value.bool _
    rw [← all_range, hb, List.size_toArray, List.length_map]
end

/-! ### == and != of data at any depth: none, bools, ints, texts, lists, tuples -/
mutual
inductive Dp (K : PySem.W.Frag) (H : Hp) : V → PyData → Prop
  | non : Dp K H .non .none
  | bl (b : Bool) : Dp K H (.bl b) (.bool b)
  | int (i : Int) : Dp K H (.int i) (.int i)
  | str (x : Str) : Dp K H (.str x) (.str x)
  | lst {a : Addr} {xs : List V} {ds : List PyData} : SqL K H a xs → DpAll K H xs ds → Dp K H (.ref a) (.list ds)
  | tup {a : Addr} {xs : List V} {ds : List PyData} : SqT K H a xs → DpAll K H xs ds → Dp K H (.ref a) (.tuple ds)
inductive DpAll (K : PySem.W.Frag) (H : Hp) : List V → List PyData → Prop
  | nil : DpAll K H [] []
  | cons {v : V} {vs : List V} {d : PyData} {ds : List PyData} : Dp K H v d → DpAll K H vs ds → DpAll K H (v :: vs) (d :: ds)
end
section
variable {X : Cx} {pins : List (Addr × Obj)} {σ : St} {H : Hp} {s : Shared}
mutual
theorem Dp.reads (I : Inv X pins σ H s) : ∀ (d : PyData) (v : V) (u : Value), Dp X.K H v d → RelV v u → ∃ as, Reads s.heap u d as
  | .none, _, _, h, r => by
    cases h
    cases r
    exact ⟨_, Reads.none⟩
  | .bool b, _, _, h, r => by
    cases h
    cases r
    exact ⟨_, Reads.bool b⟩
  | .int i, _, _, h, r => by
    cases h
    obtain ⟨t, rfl⟩ := r
    exact ⟨_, Reads.int i t⟩
  | .str x, _, _, h, r => by
    cases h
    obtain ⟨t, rfl⟩ := r
    exact ⟨_, Reads.str x t⟩
  | .list ds, _, _, h, r => by
    cases h with
    | lst hs ha =>
      cases r
      obtain ⟨its, rv, ⟨o, n, ho, hc, _, hd⟩, _⟩ := I.list hs
      obtain ⟨as, hr⟩ := Dp.readsAll I ds _ its ha rv
      exact ⟨_, Reads.list ho hc hd hr⟩
  | .tuple ds, _, _, h, r => by
    cases h with
    | tup hs ha =>
      cases r
      obtain ⟨its, rv, ⟨o, ho, hc, n, hd⟩, _⟩ := I.tuple hs
      obtain ⟨as, hr⟩ := Dp.readsAll I ds _ its ha rv
      exact ⟨_, Reads.tuple ho hc hd hr⟩
  | .dict _, _, _, h, _ => by cases h
theorem Dp.readsAll (I : Inv X pins σ H s) : ∀ (ds : List PyData) (vs : List V) (us : List Value), DpAll X.K H vs ds → Vals vs us → ∃ as, ReadsAll s.heap us ds as
  | [], _, _, h, r => by
    cases h
    cases r
    exact ⟨_, ReadsAll.nil⟩
  | d :: ds, _, _, h, r => by
    cases h with
    | cons h1 h2 =>
      cases r with
      | cons r1 r2 =>
        obtain ⟨as, q1⟩ := Dp.reads I d _ _ h1 r1
        obtain ⟨bs, q2⟩ := Dp.readsAll I ds _ _ h2 r2
        exact ⟨_, ReadsAll.cons q1 q2⟩
end
end
section
variable {X : Cx}
def rNeD (K : PySem.W.Frag) : R2 := fun x y H Q => ∃ d e, Dp K H x d ∧ Dp K H y e ∧ SeqAt.shaped d = true ∧ SeqAt.shaped e = true ∧ Q (.bl (!PyData.eqv d e)) H
theorem op_neD (hu : X.A.units + 64 < cLine) : OpR X (compareOp .NotEq) (rNeD X.K) := by
  intro pins s σ H x y v u Q I rx ry h
  obtain ⟨d, e, hd, he, sd, se, q⟩ := h
  obtain ⟨as, r1⟩ := Dp.reads I d x v hd rx
  obtain ⟨bs, r2⟩ := Dp.reads I e y u he ry
  exact SeqAt.compareNe_shaped r1 r2 sd se hu ⟨.bl _, H, I, rfl, q⟩
end
end L2

namespace L2
open PySem PySem.Spec PyProof.Rows
abbrev CellAt (h : Heap) (c : Addr) (v : Option Value) : Prop := h.IsCell c v
def relS (scope sc : Scope) : Scope :=
  { scope with names := scope.names.map fun (n, k) => if (k == .free && sc.kind == .function && sc.names.lookup n == some .cell) then (n, .cell) else (n, k) }

def cloFrom (cells : List (Str × Addr)) : List (Str × NameKind) → List (Str × Addr) → List (Str × Addr)
  | [], acc => acc
  | (n, k) :: r, acc => if k == .free then cloFrom cells r ((n, (cells.lookup n).getD 0) :: acc) else cloFrom cells r acc

theorem closure_loop (env : Env) (f : Str × NameKind → List (Str × Addr) → Sem (ForInStep (List (Str × Addr))))
    (hf : ∀ n k c, f (n, k) c = if k == .free then (do let a ← cellOf env n; pure (.yield ((n, a) :: c))) else pure (.yield c)) :
    ∀ (names : List (Str × NameKind)) (acc : List (Str × Addr)), (∀ y ∈ names, y.2 = .free → ∃ c, env.cells.lookup y.1 = some c) → forIn names acc f = pure (cloFrom env.cells names acc)
  | [], acc, _ => by rw [List.forIn_nil]; rfl
  | (n, k) :: r, acc, h => by
    rw [List.forIn_cons, hf]
    have ih := fun acc => closure_loop env f hf r acc fun y hy => h y (List.mem_cons_of_mem _ hy)
    unfold cloFrom
    by_cases hk : (k == NameKind.free) = true
    · rw [if_pos hk, if_pos hk]
      obtain ⟨c, hc⟩ := h (n, k) List.mem_cons_self (by simpa using hk)
      have e : cellOf env n = pure c := by unfold cellOf; rw [hc]
      rw [e]
      have e2 : (env.cells.lookup n).getD 0 = c := by rw [hc]; rfl
      rw [e2]
      exact ih _
    · rw [if_neg hk, if_neg hk]
      exact ih _
theorem closure_ok {scope : Scope} {env : Env} (h : ∀ y ∈ scope.names, y.2 = .free → ∃ c, env.cells.lookup y.1 = some c) : closureFor scope env = pure (cloFrom env.cells scope.names []) := by
  simp only [closureFor]
  rw [closure_loop env _ (fun n k c => rfl) scope.names [] h]
  rfl

theorem mem_lookup {α : Type} : ∀ {l : List (Str × α)} {n : Str} {c : α}, (n, c) ∈ l → ∃ c', l.lookup n = some c'
  | (k, v) :: r, n, c, h => by
    rw [List.lookup_cons]
    cases hb : n == k with
    | true => exact ⟨_, rfl⟩
    | false =>
      rcases List.mem_cons.mp h with e | h
      · cases e; simp at hb
      · exact mem_lookup h

theorem cloFrom_mem {cells : List (Str × Addr)} : ∀ {names : List (Str × NameKind)} {acc : List (Str × Addr)} {n : Str} {c : Addr}, (n, c) ∈ cloFrom cells names acc → (n, c) ∈ acc ∨ ((n, .free) ∈ names ∧ c = (cells.lookup n).getD 0)
  | [], _, _, _, h => .inl h
  | (m, k) :: r, acc, n, c, h => by
    unfold cloFrom at h
    split at h
    · rename_i hk
      have hk : k = .free := by simpa using hk
      rcases cloFrom_mem h with h | ⟨h1, h2⟩
      · rcases List.mem_cons.mp h with e | h
        · cases e; exact .inr ⟨hk ▸ List.mem_cons_self, rfl⟩
        · exact .inl h
      · exact .inr ⟨List.mem_cons_of_mem _ h1, h2⟩
    · rcases cloFrom_mem h with h | ⟨h1, h2⟩
      · exact .inl h
      · exact .inr ⟨List.mem_cons_of_mem _ h1, h2⟩
theorem cloFrom_acc {cells : List (Str × Addr)} : ∀ {names : List (Str × NameKind)} {acc : List (Str × Addr)} {p : Str × Addr}, p ∈ acc → p ∈ cloFrom cells names acc
  | [], _, _, h => h
  | (m, k) :: r, acc, p, h => by
    unfold cloFrom
    split
    · exact cloFrom_acc (List.mem_cons_of_mem _ h)
    · exact cloFrom_acc h
theorem cloFrom_has {cells : List (Str × Addr)} : ∀ {names : List (Str × NameKind)} {acc : List (Str × Addr)} {n : Str}, (n, .free) ∈ names → (n, (cells.lookup n).getD 0) ∈ cloFrom cells names acc
  | (m, k) :: r, acc, n, h => by
    unfold cloFrom
    rcases List.mem_cons.mp h with e | h
    · cases e
      exact cloFrom_acc List.mem_cons_self
    · split
      · exact cloFrom_has h
      · exact cloFrom_has h

theorem cells_mem : ∀ {names : List (Str × NameKind)} {h : Heap} {acc : List (Str × Addr)} {x : Str} {c : Addr}, (x, c) ∈ cellsFrom h.objs.size names acc →
    (x, c) ∈ acc ∨ ((x, .cell) ∈ names ∧ h.objs.size ≤ c ∧ CellAt (pushCells h names) c none)
  | [], _, _, _, _, h => .inl h
  | (n, k) :: r, h, acc, x, c, hm => by
    unfold cellsFrom at hm
    unfold pushCells
    split at hm
    · rename_i hk
      rw [if_pos hk]
      have hk : k = .cell := by simpa using hk
      rw [← Heap.size_push h { cls := .type "cell", data := .cell none }] at hm
      rcases cells_mem hm with hm | ⟨h1, h2, h3⟩
      · rcases List.mem_cons.mp hm with e | hm
        · cases e
          exact .inr ⟨hk ▸ List.mem_cons_self, Nat.le_refl _, _, pushCells_keeps r _ _ _ (Heap.get?_push_size _ rfl), rfl⟩
        · exact .inl hm
      · rw [Heap.size_push] at h2
        exact .inr ⟨List.mem_cons_of_mem _ h1, Nat.le_of_succ_le h2, h3⟩
    · rename_i hk
      rw [if_neg hk]
      rcases cells_mem hm with hm | ⟨h1, h2, h3⟩
      · exact .inl hm
      · exact .inr ⟨List.mem_cons_of_mem _ h1, h2, h3⟩
theorem cells_acc : ∀ {names : List (Str × NameKind)} {n : Nat} {acc : List (Str × Addr)} {p : Str × Addr}, p ∈ acc → p ∈ cellsFrom n names acc
  | [], _, _, _, h => h
  | (m, k) :: r, n, acc, p, h => by
    unfold cellsFrom
    split
    · exact cells_acc (List.mem_cons_of_mem _ h)
    · exact cells_acc h
theorem cells_has : ∀ {names : List (Str × NameKind)} {n : Nat} {acc : List (Str × Addr)} {x : Str}, (x, .cell) ∈ names → ∃ c, (x, c) ∈ cellsFrom n names acc
  | (m, k) :: r, n, acc, x, h => by
    unfold cellsFrom
    rcases List.mem_cons.mp h with e | h
    · cases e
      exact ⟨n, cells_acc List.mem_cons_self⟩
    · split
      · exact cells_has h
      · exact cells_has h
theorem cells_inj : ∀ {names : List (Str × NameKind)} {h : Heap} {acc : List (Str × Addr)} {x y : Str} {c : Addr}, (∀ p ∈ acc, p.2 < h.objs.size) → (∀ x y c, (x, c) ∈ acc → (y, c) ∈ acc → x = y) →
    (x, c) ∈ cellsFrom h.objs.size names acc → (y, c) ∈ cellsFrom h.objs.size names acc → x = y
  | [], _, _, _, _, _, _, hi, h1, h2 => hi _ _ _ h1 h2
  | (n, k) :: r, h, acc, x, y, c, hl, hi, h1, h2 => by
    unfold cellsFrom at h1 h2
    split at h1
    · rename_i hk
      rw [if_pos hk] at h2
      rw [← Heap.size_push h { cls := .type "cell", data := .cell none }] at h1 h2
      refine cells_inj (h := h.push _) (fun p hp => ?_) (fun x y c a b => ?_) h1 h2
      · rw [Heap.size_push]
        rcases List.mem_cons.mp hp with rfl | hp
        · exact Nat.lt_succ_self _
        · exact Nat.lt_succ_of_lt (hl p hp)
      · rcases List.mem_cons.mp a with e | a <;> rcases List.mem_cons.mp b with e' | b
        · cases e; cases e'; rfl
        · cases e; exact absurd (hl _ b) (Nat.lt_irrefl _)
        · cases e'; exact absurd (hl _ a) (Nat.lt_irrefl _)
        · exact hi _ _ _ a b
    · rename_i hk
      rw [if_neg hk] at h2
      exact cells_inj hl hi h1 h2

theorem newEnv_comp {M : Model} {A : Around} {E : Value → Shared → Prop} {s : Shared} {scope : Scope} {globals : Addr} {closure : List (Str × Addr)} {qual : Str} {func : Option Addr} {code : Value} {around : Env} {builtins : Addr} {Q : Env → Shared → Prop}
    (h : Q (newEnv scope s.heap.objs.size globals (cellsFrom (s.heap.objs.size + 1) scope.names closure) qual func code (some around) builtins)
      { s with heap := pushCells (s.heap.push { cls := .type "dict", data := .dict #[] }) scope.names }) :
    wpAny M A (newFunctionEnv scope globals closure [] qual func code (some around) builtins) Q E s := by
  simp only [newFunctionEnv, Option.isSome_some, if_true]
  refine wpAny_bind (wpAny_alloc ?_)
  refine wpAny_bind (wpAny_layCells _ (fun n k c => rfl) scope.names closure _ _ ?_)
  rw [show ({ s with heap := s.heap.push { cls := .type "dict", data := .dict #[] } } : Shared).heap.objs.size = s.heap.objs.size + 1 from Heap.size_push ..]
  rw [List.forIn_nil]
  exact wpAny_bind (wpAny_pure (wpAny_pure h))

/-- every name of the written scope, in the scope that runs -/
theorem lookup_relS {sc : Scope} : ∀ {names : List (Str × NameKind)} {x : Str} {k : NameKind},
    (names.map fun (n, k) => if (k == NameKind.free && sc.kind == .function && sc.names.lookup n == some .cell) then (n, NameKind.cell) else (n, k)).lookup x = some k →
    ∃ k', names.lookup x = some k' ∧ (k = k' ∨ (k' = .free ∧ k = .cell))
  | [], _, _, h => by simp at h
  | (n, k₀) :: r, x, k, h => by
    have ih := @lookup_relS sc r x k
    have h' : List.lookup x ((if (k₀ == NameKind.free && sc.kind == .function && sc.names.lookup n == some .cell) = true then (n, NameKind.cell) else (n, k₀)) :: (r.map _)) = some k := h
    cases hx : x == n with
    | true =>
      simp only [List.lookup_cons, hx]
      by_cases hc : (k₀ == NameKind.free && sc.kind == .function && sc.names.lookup n == some .cell) = true
      · rw [if_pos hc] at h'
        simp only [List.lookup_cons, hx] at h'
        cases h'
        simp only [Bool.and_eq_true, beq_iff_eq] at hc
        exact ⟨k₀, rfl, .inr ⟨hc.1.1, rfl⟩⟩
      · rw [if_neg hc] at h'
        simp only [List.lookup_cons, hx] at h'
        cases h'
        exact ⟨_, rfl, .inl rfl⟩
    | false =>
      simp only [List.lookup_cons, hx]
      by_cases hc : (k₀ == NameKind.free && sc.kind == .function && sc.names.lookup n == some .cell) = true
      · rw [if_pos hc] at h'
        simp only [List.lookup_cons, hx] at h'
        exact ih h'
      · rw [if_neg hc] at h'
        simp only [List.lookup_cons, hx] at h'
        exact ih h'

/-- the names of a comprehension's block: its own (with their places in N), or captured -/
structure BlkOk (N : List Str) (sc scope : Scope) (own : List (Str × Nat)) : Prop where
  kind : scope.kind = .function
  uniq : ∀ y ∈ scope.names, scope.names.lookup y.1 = some y.2
  ix : ∀ p ∈ own, N[p.2]? = some p.1
  free : ∀ y ∈ scope.names, y.2 = .free → sc.names.lookup y.1 = some .cell ∨ sc.names.lookup y.1 = some .free
  own : ∀ y ∈ scope.names, y.2 = .local ∨ y.2 = .cell → y.1 ∈ own.map (·.1) ∨ y.1 ∉ N
/-- the slots of the block's own names forgotten -/
def wipe (σ : St) : List Nat → St
  | [] => σ
  | v :: vs => (wipe σ vs).set v none
theorem wipe_length (σ : St) : ∀ vs : List Nat, (wipe σ vs).length = σ.length
  | [] => rfl
  | v :: vs => by unfold wipe; rw [List.length_set, wipe_length σ vs]
theorem wipe_some {σ : St} {i : Nat} {x : V} : ∀ {vs : List Nat}, (wipe σ vs)[i]? = some (some x) → σ[i]? = some (some x) ∧ i ∉ vs
  | [], h => ⟨h, by simp⟩
  | v :: vs, h => by
    unfold wipe at h
    by_cases hi : v = i
    · subst hi
      by_cases hv : v < (wipe σ vs).length
      · rw [List.getElem?_set_self hv] at h; cases h
      · rw [List.getElem?_eq_none (by simpa using hv)] at h; cases h
    · rw [List.getElem?_set_ne hi] at h
      obtain ⟨h1, h2⟩ := wipe_some h
      exact ⟨h1, by simp only [List.mem_cons, not_or]; exact ⟨fun e => hi e.symm, h2⟩⟩

/-- the context of a block that starts at s, its iterator's objects at fp -/
abbrev Cx.blk (X : Cx) (s : Shared) (H : Hp) (scope : Scope) (cenv : Env) (fp : List Addr) : Cx := { X with s_0 := s, H_0 := H, env := cenv, outer := X.stack, ex := fp, fn := fun x => scope.names.lookup x == some .cell, pn := [], xe := fun _ _ => False }
section
variable {X : Cx} {pins : List (Addr × Obj)} {σ : St} {H : Hp} {s : Shared}
theorem block_start {scope : Scope} {own : List (Str × Nat)} {fp : List Addr} (I : Inv X pins σ H s) (ok : BlkOk X.N X.env.scope scope own) (hN : X.N.Nodup) (hfp : ∀ b ∈ fp, FpOk X pins H b ∧ b < s.heap.objs.size) :
    Inv (X.blk s H scope (compEnvC scope (cellsFrom (s.heap.objs.size + 1) scope.names (cloFrom X.env.cells scope.names [])) s.heap.objs.size X.env) fp) [] (wipe σ (own.map (·.2))) H { s with heap := pushCells (s.heap.push { cls := .type "dict", data := .dict #[] }) scope.names } := by
  have hfree : ∀ y ∈ scope.names, y.2 = .free → ∃ c, X.env.cells.lookup y.1 = some c := fun y hy e => by
    rcases ok.free y hy e with k | k
    · exact I.ok.has _ (.inl k)
    · exact I.ok.has _ (.inr k)
  generalize hcenv : compEnvC scope (cellsFrom (s.heap.objs.size + 1) scope.names (cloFrom X.env.cells scope.names [])) s.heap.objs.size X.env = cenv
  have kp : ∀ b o, s.heap.get? b = some o → (pushCells (s.heap.push { cls := .type "dict", data := .dict #[] }) scope.names).get? b = some o := fun b o e => pushCells_keeps _ _ _ _ (Heap.get?_push_of_some _ e)
  have hL : cenv.locals = s.heap.objs.size := by rw [← hcenv]; rfl
  have hcl : cenv.cells = cellsFrom (s.heap.objs.size + 1) scope.names (cloFrom X.env.cells scope.names []) := by rw [← hcenv]; rfl
  have hsc : cenv.scope = relS scope X.env.scope := by rw [← hcenv]; rfl
  rw [← Heap.size_push s.heap { cls := .type "dict", data := .dict #[] }] at hcl
  have cm : ∀ {y c}, (y, c) ∈ cloFrom X.env.cells scope.names [] → X.env.cells.lookup y = some c ∧ c < s.heap.objs.size := fun {y c} hm => by
    rcases cloFrom_mem hm with hm | ⟨h1, rfl⟩
    · cases hm
    · obtain ⟨c, hc⟩ := hfree _ h1 rfl
      rw [hc]
      obtain ⟨w, z⟩ := I.cell _ _ hc
      exact ⟨rfl, z.lt⟩
  have mem : ∀ {y c}, cenv.cells.lookup y = some c → (X.env.cells.lookup y = some c ∧ c < s.heap.objs.size) ∨ (s.heap.objs.size + 1 ≤ c ∧ CellAt (pushCells (s.heap.push { cls := .type "dict", data := .dict #[] }) scope.names) c none) := fun {y c} e => by
    rw [hcl] at e
    rcases cells_mem (PySem.mem_of_lookup e) with hm | ⟨_, h2, h3⟩
    · exact .inl (cm hm)
    · rw [Heap.size_push] at h2; exact .inr ⟨h2, h3⟩
  have look : ∀ {y}, scope.names.lookup y = some .free → ∃ c, cenv.cells.lookup y = some c ∧ X.env.cells.lookup y = some c := fun {y} hl => by
    have hy : (y, NameKind.free) ∈ scope.names := PySem.mem_of_lookup hl
    obtain ⟨c', e'⟩ := mem_lookup (cells_acc (names := scope.names) (n := (s.heap.push { cls := .type "dict", data := .dict #[] }).objs.size) (cloFrom_has (cells := X.env.cells) (acc := []) hy))
    rw [← hcl] at e'
    refine ⟨c', e', ?_⟩
    rw [hcl] at e'
    rcases cells_mem (PySem.mem_of_lookup e') with hm | ⟨h1, _, _⟩
    · exact (cm hm).1
    · have := ok.uniq _ h1
      rw [hl] at this; cases this
  have okB : (X.blk s H scope cenv fp).Ok := by
    refine ⟨I.ok.mod, by show cenv.scope.kind = _; rw [hsc]; exact ok.kind, by show cenv.globals = _; rw [← hcenv]; exact I.ok.glob, by show cenv.builtins = _; rw [← hcenv]; exact I.ok.blt, by show s.heap.objs.size ≤ cenv.locals; rw [hL]; exact Nat.le_refl _,
      fun y z c e1 e2 => ?_, fun y hy => ?_, fun y c z e => ?_, I.ok.hd, I.ok.frames, .inl rfl, fun b hb => ⟨?_, fun y c e z => ?_⟩, I.bs, Nat.le_trans I.ok.bsz I.sz, fun b o e hb => ?_, fun b hb z => ?_, I.stack, I.stkFree⟩
    · have e1 : cenv.cells.lookup y = some c := e1
      have e2 : cenv.cells.lookup z = some c := e2
      rw [hcl] at e1 e2
      refine cells_inj (fun p hp => ?_) (fun y z c a b => I.ok.inj y z c (cm a).1 (cm b).1) (PySem.mem_of_lookup e1) (PySem.mem_of_lookup e2)
      rw [Heap.size_push]
      exact Nat.lt_succ_of_lt (cm (y := p.1) (c := p.2) hp).2
    · show ∃ c, cenv.cells.lookup y = some c
      have key : ∀ k, cenv.kindOf y = some k → (k = .cell ∨ k = .free) → ∃ c, cenv.cells.lookup y = some c := fun k hk hk' => by
        unfold Env.kindOf at hk
        rw [hsc] at hk
        obtain ⟨k', e, r⟩ := lookup_relS hk
        have : k' = .cell ∨ k' = .free := by
          rcases r with rfl | ⟨rfl, _⟩
          · exact hk'
          · exact .inr rfl
        rcases this with rfl | rfl
        · obtain ⟨c, hm⟩ := cells_has (n := (s.heap.push { cls := .type "dict", data := .dict #[] }).objs.size) (acc := cloFrom X.env.cells scope.names []) (PySem.mem_of_lookup e)
          obtain ⟨c', e'⟩ := mem_lookup hm
          exact ⟨c', by rw [hcl]; exact e'⟩
        · obtain ⟨c, h1, _⟩ := look e
          exact ⟨c, h1⟩
      rcases hy with hy | hy
      · exact key _ hy (.inl rfl)
      · exact key _ hy (.inr rfl)
    · have z : (scope.names.lookup y == some NameKind.cell) = true := z
      have z : scope.names.lookup y = some .cell := by simpa using z
      have e : cenv.cells.lookup y = some c := e
      rw [hcl] at e
      rcases cells_mem (PySem.mem_of_lookup e) with hm | ⟨_, h2, _⟩
      · rcases cloFrom_mem hm with hm | ⟨h1, _⟩
        · cases hm
        · have q := ok.uniq _ h1
          rw [z] at q; cases q
      · rw [Heap.size_push] at h2
        exact Nat.le_of_succ_le h2
    · show b ≠ cenv.locals
      rw [hL]; exact Nat.ne_of_lt (hfp b hb).2
    · have e : cenv.cells.lookup y = some c := e
      rcases mem e with ⟨h1, _⟩ | ⟨h1, _⟩
      · exact (hfp b hb).1.2.2.2.2.1 y c h1 z
      · have h2 : s.heap.objs.size + 1 ≤ b := by rw [← z]; exact h1
        exact absurd (Nat.lt_of_lt_of_le (hfp b hb).2 (Nat.le_of_succ_le h2)) (Nat.lt_irrefl _)
    · rcases (hfp b hb).1.2.2.2.1 with z | z
      · exact I.ok.noex b o e z
      · exact absurd (Nat.lt_of_lt_of_le (Heap.lt_size e) (Nat.le_trans I.ok.bsz z)) (Nat.lt_irrefl _)
    · rcases List.mem_cons.mp (I.stkSub b z) with z | z
      · exact (hfp b hb).1.2.1 z
      · exact (hfp b hb).1.2.2.1 z
  refine ⟨okB, rfl, I.bare, Un.kept kp, ⟨fun _ => none, ?_, fun i y av e1 e2 e3 => ?_⟩, fun y c e => ?_, ?_, fun y c e => ?_, fun p hp => ?_, I.hok.kept kp, by rw [wipe_length]; exact I.len⟩
  · show Heap.Ns _ cenv.locals _
    rw [hL]
    exact Heap.Ns.keeps (Heap.Ns.new ..) fun b o e => pushCells_keeps _ _ _ _ e
  · obtain ⟨e2, hne⟩ := wipe_some e2
    have hfr : scope.names.lookup y = some .free ∧ (cenv.kindOf y = some .cell ∨ cenv.kindOf y = some .free) := by
      have key : ∀ k, cenv.scope.names.lookup y = some k → k = .local ∨ k = .cell ∨ k = .free → scope.names.lookup y = some .free ∧ (cenv.kindOf y = some .cell ∨ cenv.kindOf y = some .free) := fun k hk hk' => by
        have hk0 := hk
        rw [hsc] at hk
        obtain ⟨k', e, r⟩ := lookup_relS hk
        have no : ¬ (k' = .local ∨ k' = .cell) := fun hh => by
          rcases ok.own _ (PySem.mem_of_lookup e) hh with e' | e'
          · obtain ⟨p, hp, hpy⟩ := List.mem_map.mp e'
            have e3 := ok.ix p hp
            have : p.1 = y := hpy
            rw [this] at e3
            exact hne (List.mem_map.mpr ⟨p, hp, nodup_ix hN e3 e1⟩)
          · exact e' (List.mem_of_getElem? e1)
        rcases r with rfl | ⟨rfl, rfl⟩
        · rcases hk' with rfl | rfl | rfl
          · exact absurd (.inl rfl) no
          · exact absurd (.inr rfl) no
          · exact ⟨e, .inr hk0⟩
        · exact ⟨e, .inl hk0⟩
      have e3 : Vis cenv.scope y := e3
      rcases e3 with e3 | e3 | e3
      · exact key _ e3 (.inl rfl)
      · exact key _ e3 (.inr (.inl rfl))
      · exact key _ e3 (.inr (.inr rfl))
    obtain ⟨m, hn, hl⟩ := I.loc
    have hvis : Vis X.env.scope y := (ok.free _ (PySem.mem_of_lookup hfr.1) rfl).elim (fun k => .inr (.inl k)) (fun k => .inr (.inr k))
    obtain ⟨w, r, q⟩ := hl i y av e1 e2 hvis
    refine ⟨w, r, .inr ⟨hfr.2, ?_⟩⟩
    obtain ⟨c, h1, h2⟩ := look hfr.1
    rcases q with ⟨k, _⟩ | ⟨_, c', e', z⟩
    · have k : X.env.scope.names.lookup y = some .local := k
      rcases ok.free _ (PySem.mem_of_lookup hfr.1) rfl with k' | k' <;> rw [show X.env.scope.names.lookup y = _ from k'] at k <;> cases k
    · rw [h2] at e'; cases e'
      exact ⟨c, h1, z.keeps kp⟩
  · have e : cenv.cells.lookup y = some c := e
    rcases mem e with ⟨h1, _⟩ | ⟨_, z⟩
    · obtain ⟨w, z⟩ := I.cell y c h1
      exact ⟨w, z.keeps kp⟩
    · exact ⟨_, z⟩
  · show H cenv.locals = none
    rw [hL]; exact I.hok.fresh (Nat.le_refl _)
  · have e : cenv.cells.lookup y = some c := e
    rcases mem e with ⟨h1, _⟩ | ⟨h1, _⟩
    · exact I.freeC y c h1
    · exact I.hok.fresh (Nat.le_of_succ_le h1)
  · exact absurd (show p ∈ ([] : List (Addr × Obj)) ++ [] from hp) (by simp)

/-- an item appended to a tracked list -/
theorem app_ok {E : Value → Shared → Prop} {D : Addr} {xs : List V} {y : V} {v : Value} {Q : Value → Shared → Prop} (I : Inv X pins σ H s) (hD : H D = some (.lst xs)) (hz : xs.length < sizeLine) (r : RelV y v)
    (h : ∀ s', Inv X pins σ (upd H D (.lst (xs ++ [y]))) s' → Q .none s') : wpAny (model X.prog X.w) X.A (call (.builtin "list.append") [.ref D, v]) Q E s := by
  obtain ⟨hz', its, n, ri, e⟩ := I.hok D _ hD
  have hl := ri.length
  refine append_at (hsz := by rw [List.size_toArray]; omega) e fun h' sb ho' => ?_
  refine h { s with heap := h' } (I.write (t' := s.toks) (by rw [hD]; trivial) (.inl rfl) (fun b u hb q => (sb.2 b hb).trans q) ⟨_, ho'⟩ ⟨by rw [List.length_append]; exact hz, its ++ [v], n + 1, ri.append (.cons r .nil), ?_⟩)
  rw [ho']
  simp

/-- a clause's tests -/
def PTs (X : Cx) (ifs : List Expr) (t : TT) : Prop :=
  ∀ (pins : List (Addr × Obj)) (s : Shared) (σ : St) (H : Hp) (Q : Bool → Hp → Prop), Inv X pins σ H s → t σ H Q →
    wpAny (model X.prog X.w) X.A (forIn ifs true fun c r => if r = true then do let ok ← isTrue c X.env (eval c X.env); pure (ForInStep.yield ok) else pure (ForInStep.yield r)) (TP X pins σ Q) X.xe s
def tYes : TT := fun _ H Q => Q true H
theorem pts_nil : PTs X [] tYes := fun _ _ _ H _ I h => wpAny_tests_nil ⟨H, I, h⟩
theorem pts_one {c : Expr} {t : TT} (h : PT X c t) : PTs X [c] t := fun pins s σ H Q I hw => wpAny_tests_one (h pins s σ H Q I hw)
end

theorem thnF {α : Type} {t : Sem α} {Q Q' : α → Shared → Prop} {M : Model} {A : Around} {E : Value → Shared → Prop} {s : Shared} (h : wpAny M A t Q (fun _ _ => False) s) (hQ : ∀ a s, Q a s → Q' a s) : wpAny M A t Q' E s := wpAny_mono h hQ fun _ _ z => False.elim z

/-- the loop of a list comprehension's block, the target of any form (codeAny_compLoop_tests asks a target that no tuple goes to; statement and proof follow it, PyProof/CompMap.lean:41-61, with the step letOwnedTupleGo kept) -/
theorem compLoop_any {prog : Program} {w : World} {A : Around} {R : Result → Shared → Prop} {s : Shared} {elt target iter : Expr} {ifs : List Expr} {scope : Scope} {pos : Pos} {it acc : Value} {env : Env} (I : Nat → Shared → Prop)
    (turn : ∀ n s, I n s → wpAny (model prog w) A (pyNext it) (fun r s₁ => match r with
      | none => R (.ok .next) s₁
      | some v => wpAny (model prog w) A (letOwnedTupleGo target it v) (fun _ s₁' => wpAny (model prog w) A (assign target env v) (fun _ s₂ =>
          wpAny (model prog w) A (forIn ifs true fun c r => if r = true then do let ok ← isTrue c env (eval c env); pure (ForInStep.yield ok) else pure (ForInStep.yield r)) (fun ok s₃ =>
            if ok = true then wpAny (model prog w) A (eval elt env) (fun x s₄ =>
              wpAny (model prog w) A (call (.builtin "list.append") [acc, x]) (fun _ s₅ => ∃ m, m < n ∧ I m s₅) (notedBy (model prog w) A env fun e s' => R (.error e) s') s₄) (notedBy (model prog w) A env fun e s' => R (.error e) s') s₃
            else ∃ m, m < n ∧ I m s₃) (notedBy (model prog w) A env fun e s' => R (.error e) s') s₂) (notedBy (model prog w) A env fun e s' => R (.error e) s') s₁') (notedBy (model prog w) A env fun e s' => R (.error e) s') s₁) (notedBy (model prog w) A env fun e s' => R (.error e) s') s)
    (n : Nat) (h : I n s) :
    codeAny (model prog w) A (.compLoop (.ListComp elt [⟨target, iter, ifs, 0⟩] scope pos) 0 it acc env) R s := by
  refine codeAny_loop rfl I (fun n s hI => ?_) n h
  show wpAny _ A ((compTurn (.ListComp elt [⟨target, iter, ifs, 0⟩] scope pos) 0 it acc env).onRaise (fun x => do noteFrame x env; theTreesLotGoes x)) _ _ s
  refine wpAny_noted ?_
  rw [compTurn_list]
  refine wpAny_bind (wpAny_standAt (wpAny_bind (wpAny_mono (turn n s hI) (fun r s₁ h₁ => ?_) fun _ _ h' => h')))
  cases r with
  | none => exact wpAny_pure h₁
  | some v =>
    refine wpAny_bind (wpAny_mono h₁ (fun _ s₁' h₁' => ?_) fun _ _ h' => h')
    refine wpAny_bind (wpAny_mono h₁' (fun _ s₂ h₂ => wpAny_bind (wpAny_mono h₂ (fun ok s₃ h₃ => ?_) fun _ _ h' => h')) fun _ _ h' => h')
    cases ok with
    | false => exact wpAny_pure ⟨rfl, h₃⟩
    | true =>
      exact wpAny_bind (wpAny_bind (wpAny_mono h₃ (fun x s₄ h₄ => wpAny_bind (wpAny_mono h₄ (fun _ s₅ h₅ => wpAny_pure (wpAny_pure ⟨rfl, h₅⟩)) fun _ _ h' => h')) fun _ _ h' => h'))

section
variable {X : Cx}
/-- [elt for target in iter if ..]: D the new list; W by the turn and a measure, Nx what a turn is to reach -/
def tLc (wi : TI) (g : TG) (tt : TT) (te : TE) (vs : List Nat) : TE := fun σ H Q => wi σ H fun J H1 => ∀ D, H1 D = none → ∃ W : Nat → Nat → Hp → Prop, (∃ m, W 0 m (upd H1 D (.lst []))) ∧ ∀ i m H, W i m H →
  (J.stop i H ∧ Q (.ref D) H) ∨ (J.go i H ∧ ∃ Nx : Hp → Prop, (∀ H', Nx H' → ∃ m', m' < m ∧ W (i + 1) m' H') ∧ ∀ x H', J.yld i H x H' → g x (wipe σ vs) H' fun σ2 H2 => wipe σ2 vs = wipe σ vs ∧ tt σ2 H2 fun b H3 =>
    if b = true then te σ2 H3 fun y H4 => ∃ acc, H4 D = some (.lst acc) ∧ acc.length < sizeLine ∧ Nx (upd H4 D (.lst (acc ++ [y]))) else Nx H3)
theorem lc_core {pins : List (Addr × Obj)} {s : Shared} {σ : St} {H : Hp} {Q : VK} {elt tg iter : Expr} {ifs : List Expr} {scope : Scope} {own : List (Str × Nat)} {pos pos' : Pos} {wi : TI} {g : TG} {tt : TT} {te : TE} {use : Option (Value → Sem Unit)} {Qf : Value → Shared → Prop}
    (hc : X.calm = true) (hN : X.N.Nodup) (I : Inv X pins σ H s) (hi : PI X tg iter wi) (ok : BlkOk X.N X.env.scope scope own)
    (hg : ∀ (s : Shared) (H : Hp) (C : Addr) (cl : List (Str × Addr)) (fp : List Addr), PG (X.blk s H scope (compEnvC scope cl C X.env) fp) tg g) (ht : ∀ (s : Shared) (H : Hp) (C : Addr) (cl : List (Str × Addr)) (fp : List Addr), PTs (X.blk s H scope (compEnvC scope cl C X.env) fp) ifs tt)
    (he : ∀ (s : Shared) (H : Hp) (C : Addr) (cl : List (Str × Addr)) (fp : List Addr), PE (X.blk s H scope (compEnvC scope cl C X.env) fp) elt te) (hs : ∀ x, foldedSetIterable iter X.env x = pure x)
    (h : tLc wi g tt te (own.map (·.2)) σ H Q)
    (hRR : ∀ D C s' m H', Inv X pins σ H' s' → Q (.ref D) H' → s'.heap.Ns C m → FpOk X pins H' C → compPost (model X.prog X.w) X.A X.xe use Qf (.ref D) C (.ok .next) s') :
    wpAny (model X.prog X.w) X.A (comprehension (.ListComp elt [⟨tg, iter, ifs, 0⟩] scope pos) scope X.env pos' (newList []) false (eval iter X.env) use) Qf X.xe s := by
  have hfree : ∀ y ∈ scope.names, y.2 = .free → ∃ c, X.env.cells.lookup y.1 = some c := fun y hy e => by
    rcases ok.free y hy e with k | k
    · exact I.ok.has _ (.inl k)
    · exact I.ok.has _ (.inr k)
  refine wpAny_comprehension_free (use := use) rfl hs (closure_ok hfree) ok.kind (fun y hy e => by rw [ok.uniq y hy, e])
    (thn (hi pins s σ H _ I h) fun xv s1 hx => thn hx fun itv s2 h2 => ?_)
  obtain ⟨it, fp, tn, J, H2, e, I2, T, st2, f2, q⟩ := h2
  subst e
  refine wpAny_newObj_type (newEnv_comp ?_) (by show 0 ≤ sizeLine; decide)
  generalize hD : s2.heap.objs.size = D
  have hDn : H2 D = none := I2.hok.fresh (Nat.le_of_eq hD)
  obtain ⟨W, ⟨m0, w0⟩, turn⟩ := q D hDn
  -- the new list
  generalize hs3 : ({ s2 with heap := s2.heap.push { cls := .type "list", data := .seq ([] : List Value).toArray } } : Shared) = s3
  have I3 : Inv X pins σ (upd H2 D (.lst [])) s3 := by
    rw [← hs3]
    refine I2.laid (t' := s2.toks) (fun b o e => Heap.get?_push_of_some _ e) (Nat.le_of_eq hD) ⟨Nat.zero_le _, [], 0, .nil, ?_⟩
    rw [← hD]
    exact Heap.get?_push_size _ rfl
  have h3 : s3.heap = s2.heap.push { cls := .type "list", data := .seq ([] : List Value).toArray } := by rw [← hs3]
  have sz : ∀ b ∈ fp, b < s2.heap.objs.size := fun b hb => by
    obtain ⟨o, e, _⟩ := T.obj _ _ st2 b hb
    exact Heap.lt_size e
  have f3 : ∀ b ∈ fp, FpOk X pins (upd H2 D (.lst [])) b ∧ b < s3.heap.objs.size := fun b hb => by
    have hlt := sz b hb
    refine ⟨⟨?_, (f2 b hb).2⟩, by rw [h3, Heap.size_push]; exact Nat.lt_succ_of_lt hlt⟩
    rw [upd_ne (by rw [← hD]; exact Nat.ne_of_lt hlt)]
    exact (f2 b hb).1
  have st3 : tn 0 s3.heap := T.keep _ _ _ st2 fun b _ o e => by rw [h3]; exact Heap.get?_push_of_some _ e
  have I4 := block_start I3 ok hN f3
  have pg := hg s3 (upd H2 D (.lst [])) s3.heap.objs.size (cellsFrom (s3.heap.objs.size + 1) scope.names (cloFrom X.env.cells scope.names [])) fp
  have pt := ht s3 (upd H2 D (.lst [])) s3.heap.objs.size (cellsFrom (s3.heap.objs.size + 1) scope.names (cloFrom X.env.cells scope.names [])) fp
  have pe := he s3 (upd H2 D (.lst [])) s3.heap.objs.size (cellsFrom (s3.heap.objs.size + 1) scope.names (cloFrom X.env.cells scope.names [])) fp
  show codeAny _ _ (.compStart (.ListComp elt [⟨tg, iter, ifs, 0⟩] scope pos) 0 (.ref it) (.ref D) (compEnvC scope (cellsFrom (s3.heap.objs.size + 1) scope.names (cloFrom X.env.cells scope.names [])) s3.heap.objs.size X.env)) (compPost (model X.prog X.w) X.A X.xe use Qf (.ref D) s3.heap.objs.size) { s3 with heap := pushCells (s3.heap.push { cls := .type "dict", data := .dict #[] }) scope.names }
  have nfp : ∀ b ∈ fp, (upd H2 D (.lst [])) b = none := fun b hb => (f3 b hb).1.1
  generalize hce : compEnvC scope (cellsFrom (s3.heap.objs.size + 1) scope.names (cloFrom X.env.cells scope.names [])) s3.heap.objs.size X.env = ce at I4 pg pt pe ⊢
  have cL : ce.locals = s3.heap.objs.size := by subst hce; rfl
  generalize hH3 : upd H2 D (.lst []) = H3 at I3 I4 pg pt pe w0 nfp f3
  generalize hs4 : ({ s3 with heap := pushCells (s3.heap.push { cls := .type "dict", data := .dict #[] }) scope.names } : Shared) = s4 at I4 ⊢
  have st4 : tn 0 s4.heap := T.keep _ _ _ st3 fun b _ o e => by rw [← hs4]; exact pushCells_keeps _ _ _ _ (Heap.get?_push_of_some _ e)
  have stat : ∀ {σ' : St} {H' : Hp} {s' : Shared}, Inv (X.blk s3 H3 scope ce fp) [] σ' H' s' → (∀ b ∈ fp, H' b = none) → ∀ b ∈ fp, FpOk (X.blk s3 H3 scope ce fp) [] H' b := fun {σ' H' s'} I' hn b hb =>
    ⟨hn b hb, (I'.ok.exf b hb).1, I'.ok.exfs b hb, .inl hb, fun x c e => (I'.ok.exf b hb).2 x c e, fun p hp => absurd (show p ∈ ([] : List (Addr × Obj)) ++ [] from hp) (by simp)⟩
  have loop : codeAny (model X.prog X.w) X.A (.compLoop (.ListComp elt [⟨tg, iter, ifs, 0⟩] scope pos) 0 (.ref it) (.ref D) ce) (compPost (model X.prog X.w) X.A X.xe use Qf (.ref D) s3.heap.objs.size) s4 := by
    refine compLoop_any (fun n s' => ∃ i H', Inv (X.blk s3 H3 scope ce fp) [] (wipe σ (own.map (·.2))) H' s' ∧ tn i s'.heap ∧ (∀ b ∈ fp, H' b = none) ∧ W i n H') ?_ m0 ⟨0, H3, I4, st4, nfp, w0⟩
    rintro n s5 ⟨i, H5, I5, st5, n5, w5⟩
    rcases turn i n H5 w5 with ⟨stop, qq⟩ | ⟨go, Nx, hNx, step⟩
    · have td := T.done (X.blk s3 H3 scope ce fp) rfl rfl rfl hc i [] s5 _ H5 (fun _ _ => False) I5 (stat I5 n5) st5 stop
      refine thnF td fun r s6 ⟨hr, I6⟩ => ?_
      subst hr
      -- back in the def's context
      have I7 : Inv X pins σ H5 s6 := I3.call' (ch := fp) I6.os I6.base I6.hok I6.bare fun b hb => ⟨(f3 b hb).1.2.2.2.1, (f3 b hb).1.2.1, (f3 b hb).1.2.2.2.2.1, (f3 b hb).1.2.2.2.2.2⟩
      have nC : H5 s3.heap.objs.size = none := by
        have z : H5 ce.locals = none := I6.free
        rw [cL] at z
        exact z
      obtain ⟨m, hn, _⟩ := I6.loc
      have hn : s6.heap.Ns ce.locals m := hn
      rw [cL] at hn
      exact hRR D s3.heap.objs.size s6 m H5 I7 qq hn (I3.fpOk (Nat.le_refl _) nC)
    · have ti := T.item (X.blk s3 H3 scope ce fp) rfl rfl rfl hc i [] s5 _ H5 (fun _ _ => False) I5 (stat I5 n5) st5 go
      refine thnF ti fun r s6 ⟨u, hr, h6⟩ => ?_
      subst hr
      refine thnF h6 fun _ s7 ⟨x, H7, I7, r7, y7, st7, n7⟩ => ?_
      have I7' := I7.pinned (stat I7 n7) (T.obj _ _ st7)
      refine thnF (pg _ s7 _ H7 x u _ I7' r7 (step x H7 y7)) fun _ s8 ⟨σ8, H8, I8, hw8, q8⟩ => ?_
      refine thnF (pt _ s8 σ8 H8 _ I8 q8) fun b s9 ⟨H9, I9, q9⟩ => ?_
      -- the turn's end
      have fin : ∀ {s' : Shared} {H' : Hp}, Inv (X.blk s3 H3 scope ce fp) ([] ++ pinsAt fp s7.heap) σ8 H' s' → Nx H' → ∃ m, m < n ∧ ∃ i H', Inv (X.blk s3 H3 scope ce fp) [] (wipe σ (own.map (·.2))) H' s' ∧ tn i s'.heap ∧ (∀ b ∈ fp, H' b = none) ∧ W i m H' := fun {s' H'} I' nx => by
        obtain ⟨m', hm, w'⟩ := hNx H' nx
        have pin' : ∀ b ∈ fp, ∀ o, s7.heap.get? b = some o → s'.heap.get? b = some o ∧ H' b = none := fun b hb o e =>
          let z := I'.pin (b, o) (List.mem_append_right _ (List.mem_append_right _ (mem_pinsAt hb e)))
          ⟨z.1, z.2.1⟩
        have hl : (wipe σ (own.map (·.2))).length = σ8.length := by rw [← hw8, wipe_length]
        refine ⟨m', hm, i + 1, H', (I'.unpinned (pins := [])).weak hl (fun j v e => ?_), T.keep _ _ _ st7 fun b hb o e => (pin' b hb o e).1, fun b hb => ?_, w'⟩
        · rw [← hw8] at e
          exact (wipe_some e).1
        · obtain ⟨o, e, _⟩ := T.obj _ _ st7 b hb
          exact (pin' b hb o e).2
      cases b with
      | false =>
        simp only [Bool.false_eq_true, if_false] at q9 ⊢
        exact fin I9 q9
      | true =>
        simp only [if_true] at q9 ⊢
        refine thnF (pe _ s9 σ8 H9 _ I9 q9) fun z s10 ⟨yv, H10, I10, r10, acc, hD10, hz10, nx⟩ => ?_
        exact app_ok (X := X.blk s3 H3 scope ce fp) I10 hD10 hz10 r10 fun s11 I11 => fin I11 nx
  exact codeAny_compStart_list loop (T.self X.A 0 _ _ _ st4 loop)
/-- as a value -/
theorem pe_lc {elt tg iter : Expr} {ifs : List Expr} {scope : Scope} {own : List (Str × Nat)} {pos : Pos} {wi : TI} {g : TG} {tt : TT} {te : TE} (hc : X.calm = true) (hN : X.N.Nodup) (hi : PI X tg iter wi) (ok : BlkOk X.N X.env.scope scope own)
    (hg : ∀ (s : Shared) (H : Hp) (C : Addr) (cl : List (Str × Addr)) (fp : List Addr), PG (X.blk s H scope (compEnvC scope cl C X.env) fp) tg g) (ht : ∀ (s : Shared) (H : Hp) (C : Addr) (cl : List (Str × Addr)) (fp : List Addr), PTs (X.blk s H scope (compEnvC scope cl C X.env) fp) ifs tt)
    (he : ∀ (s : Shared) (H : Hp) (C : Addr) (cl : List (Str × Addr)) (fp : List Addr), PE (X.blk s H scope (compEnvC scope cl C X.env) fp) elt te) (hs : ∀ x, foldedSetIterable iter X.env x = pure x := by intro _; rfl) :
    PE X (.ListComp elt [⟨tg, iter, ifs, 0⟩] scope pos) (tLc wi g tt te (own.map (·.2))) := by
  intro pins s σ H Q I h
  rw [eval_ListComp]
  refine lc_core hc hN I hi ok hg ht he hs h fun D C s' m H' I' q hn f => ⟨m, hn, fun h'' sb => ?_⟩
  obtain ⟨f0, f1, f2, f3, f4, f5⟩ := f
  exact ⟨.ref D, H', I'.turned (t' := s'.toks) (fun b o hb e => (sb.2 b hb).trans e) f0 f1 f3 f4 f5, rfl, q⟩
/-- name = [..] on one line, the name a local -/
theorem ps_setLc {i : Nat} {y : Str} {py : Pos} {elt tg iter : Expr} {ifs : List Expr} {scope : Scope} {own : List (Str × Nat)} {pos spos : Pos} {wi : TI} {g : TG} {tt : TT} {te : TE} (hc : X.calm = true) (hN : X.N.Nodup) (hy : X.N[i]? = some y) (hyl : X.env.scope.names.lookup y = some .local)
    (hsw : swapsWith (.ListComp elt [⟨tg, iter, ifs, 0⟩] scope pos) (some (.Name y py)) spos.line X.env = pure true) (hi : PI X tg iter wi) (ok : BlkOk X.N X.env.scope scope own)
    (hg : ∀ (s : Shared) (H : Hp) (C : Addr) (cl : List (Str × Addr)) (fp : List Addr), PG (X.blk s H scope (compEnvC scope cl C X.env) fp) tg g) (ht : ∀ (s : Shared) (H : Hp) (C : Addr) (cl : List (Str × Addr)) (fp : List Addr), PTs (X.blk s H scope (compEnvC scope cl C X.env) fp) ifs tt)
    (he : ∀ (s : Shared) (H : Hp) (C : Addr) (cl : List (Str × Addr)) (fp : List Addr), PE (X.blk s H scope (compEnvC scope cl C X.env) fp) elt te) (hs : ∀ x, foldedSetIterable iter X.env x = pure x := by intro _; rfl) :
    PS X (.Assign [.Name y py] (.ListComp elt [⟨tg, iter, ifs, 0⟩] scope pos) spos) (tAsg (tLc wi g tt te (own.map (·.2))) (gName i)) := by
  intro pins s σ H D I h
  rw [exec_Assign_Name_used _ _ _ _ hsw]
  refine wpAny_bind (wpAny_standAt (wpAny_bind ?_))
  show wpAny _ X.A (do let _ ← comprehension (.ListComp elt [⟨tg, iter, ifs, 0⟩] scope pos) scope X.env (firstIterPos [⟨tg, iter, ifs, 0⟩] pos) (newList []) false (eval iter X.env) (some (assign (.Name y py) X.env))) _ _ s
  have h : tLc wi g tt te (own.map (·.2)) σ H (fun x H1 => gName i x σ H1 D.nx) := h
  refine wpAny_bind (thn (lc_core (Qf := fun _ s' => SP X pins D .next s') hc hN I hi ok hg ht he hs h fun L C s' m H' I' q hn f => ?_) fun _ s' hq => wpAny_pure (wpAny_pure hq))
  show wpAny _ _ (assign (.Name y py) X.env (.ref L)) _ _ _
  refine wpAny_assign_Name (store_ok2 (v := V.ref L) I' hN hy (.inl hyl) rfl (fun s2 I2 ⟨a, sb, ha⟩ => ?_) (.inr hyl))
  obtain ⟨f0, f1, f2, f3, f4, f5⟩ := f
  have haC : C ≠ a := by
    rcases ha with z | z
    · rw [z]; exact f1
    · exact fun e => f4 y a z e.symm
  refine ⟨m, hn.sameBut sb haC, fun h3 sb3 => ?_⟩
  exact ⟨_, H', I2.turned (t' := s2.toks) (fun b o hb e => (sb3.2 b hb).trans e) f0 f1 f3 f4 f5, q⟩
theorem sw_true {elt : Expr} {gs : List Comprehension} {scope : Scope} {pos py : Pos} {y : Str} {l : Nat} {env : Env} (hk : env.scope.kind = .function) (hy : env.scope.names.lookup y = some .local) (hl : (py.line == pos.line) = true)
    (ha : (scope.names.any fun (n, k) => n == y && (k == .local || k == .cell)) = false) : swapsWith (.ListComp elt gs scope pos) (some (.Name y py)) l env = pure true := by
  have ky : env.kindOf y = some .local := hy
  have hb : env.blockKind = .function := by unfold Env.blockKind; rw [hk]; rfl
  unfold swapsWith
  simp only [hb, ky, ha, Expr.pos, hl]
  rfl
end

/-! ### the forms one uses -/
/-- over a range: Pv by the turn and the heap (the new list at D within) -/
theorem lc_range {lo : Int} {n : Nat} {g : TG} {tt : TT} {te : TE} {vs : List Nat} {σ : St} {H1 : Hp} {D : Addr} {Qd : Hp → Prop} (Pv : Nat → Hp → Prop) (h0 : Pv 0 (upd H1 D (.lst [])))
    (hs : ∀ i H, i < n → Pv i H → g (.int (lo + i)) (wipe σ vs) H fun σ2 H2 => wipe σ2 vs = wipe σ vs ∧ tt σ2 H2 fun b H3 =>
      if b = true then te σ2 H3 fun y H4 => ∃ acc, H4 D = some (.lst acc) ∧ acc.length < sizeLine ∧ Pv (i + 1) (upd H4 D (.lst (acc ++ [y]))) else Pv (i + 1) H3) (hd : ∀ H, Pv n H → Qd H) :
    ∃ W : Nat → Nat → Hp → Prop, (∃ m, W 0 m (upd H1 D (.lst []))) ∧ ∀ i m H, W i m H →
      ((Itr lo n).stop i H ∧ Qd H) ∨ ((Itr lo n).go i H ∧ ∃ Nx : Hp → Prop, (∀ H', Nx H' → ∃ m', m' < m ∧ W (i + 1) m' H') ∧ ∀ x H', (Itr lo n).yld i H x H' → g x (wipe σ vs) H' fun σ2 H2 => wipe σ2 vs = wipe σ vs ∧ tt σ2 H2 fun b H3 =>
        if b = true then te σ2 H3 fun y H4 => ∃ acc, H4 D = some (.lst acc) ∧ acc.length < sizeLine ∧ Nx (upd H4 D (.lst (acc ++ [y]))) else Nx H3) := by
  refine ⟨fun i m H => m = n - i ∧ i ≤ n ∧ Pv i H, ⟨n, by simp, Nat.zero_le _, h0⟩, ?_⟩
  rintro i m H ⟨rfl, hi, p⟩
  by_cases hlt : i < n
  · refine .inr ⟨hlt, Pv (i + 1), fun H' p' => ⟨n - (i + 1), by omega, rfl, hlt, p'⟩, fun x H' y => ?_⟩
    obtain ⟨e, y⟩ := y
    subst e y
    exact hs i _ hlt p
  · have e : i = n := by omega
    subst e
    exact .inl ⟨Nat.le_refl _, hd H p⟩
/-- over a list that the block leaves as it is -/
theorem lc_list {K : PySem.W.Frag} {a : Addr} {xs : List V} {g : TG} {tt : TT} {te : TE} {vs : List Nat} {σ : St} {H1 : Hp} {D : Addr} {Qd : Hp → Prop} (Pv : Nat → Hp → Prop) (h0 : Pv 0 (upd H1 D (.lst []))) (hl : ∀ i H, i ≤ xs.length → Pv i H → SqL K H a xs)
    (hs : ∀ i x H, xs[i]? = some x → Pv i H → g x (wipe σ vs) H fun σ2 H2 => wipe σ2 vs = wipe σ vs ∧ tt σ2 H2 fun b H3 =>
      if b = true then te σ2 H3 fun y H4 => ∃ acc, H4 D = some (.lst acc) ∧ acc.length < sizeLine ∧ Pv (i + 1) (upd H4 D (.lst (acc ++ [y]))) else Pv (i + 1) H3) (hd : ∀ H, Pv xs.length H → Qd H) :
    ∃ W : Nat → Nat → Hp → Prop, (∃ m, W 0 m (upd H1 D (.lst []))) ∧ ∀ i m H, W i m H →
      ((Itl K a).stop i H ∧ Qd H) ∨ ((Itl K a).go i H ∧ ∃ Nx : Hp → Prop, (∀ H', Nx H' → ∃ m', m' < m ∧ W (i + 1) m' H') ∧ ∀ x H', (Itl K a).yld i H x H' → g x (wipe σ vs) H' fun σ2 H2 => wipe σ2 vs = wipe σ vs ∧ tt σ2 H2 fun b H3 =>
        if b = true then te σ2 H3 fun y H4 => ∃ acc, H4 D = some (.lst acc) ∧ acc.length < sizeLine ∧ Nx (upd H4 D (.lst (acc ++ [y]))) else Nx H3) := by
  refine ⟨fun i m H => m = xs.length - i ∧ i ≤ xs.length ∧ Pv i H, ⟨xs.length, by simp, Nat.zero_le _, h0⟩, ?_⟩
  rintro i m H ⟨rfl, hi, p⟩
  have q := hl i H hi p
  by_cases hlt : i < xs.length
  · refine .inr ⟨⟨xs, xs[i], q, by simp [hlt]⟩, Pv (i + 1), fun H' p' => ⟨xs.length - (i + 1), by omega, rfl, hlt, p'⟩, fun x H' y => ?_⟩
    obtain ⟨e, y⟩ := y
    subst e
    exact hs i x _ (y xs q) p
  · have e : i = xs.length := by omega
    subst e
    exact .inl ⟨⟨xs, q, Nat.le_refl _⟩, hd H p⟩
def blkC (N : List Str) (sc scope : Scope) (own : List (Str × Nat)) : Bool :=
  (match scope.kind with | .function => true | _ => false) && (scope.names.all fun y => decide (scope.names.lookup y.1 = some y.2)) && (own.all fun p => decide (N[p.2]? = some p.1)) &&
    (scope.names.all fun y => match y.2 with
      | .free => (match sc.names.lookup y.1 with | some .cell => true | some .free => true | _ => false)
      | .local => decide (y.1 ∈ own.map (·.1)) || decide (y.1 ∉ N)
      | .cell => decide (y.1 ∈ own.map (·.1)) || decide (y.1 ∉ N)
      | _ => true)
theorem blkOk_by {N : List Str} {sc scope : Scope} {own : List (Str × Nat)} (h : blkC N sc scope own = true) : BlkOk N sc scope own := by
  unfold blkC at h
  simp only [Bool.and_eq_true, List.all_eq_true, decide_eq_true_eq] at h
  obtain ⟨⟨⟨h1, h2⟩, h3⟩, h4⟩ := h
  refine ⟨?_, h2, h3, fun y hy e => ?_, fun y hy e => ?_⟩
  · split at h1
    · assumption
    · cases h1
  · have q := h4 y hy
    simp only [e] at q
    split at q <;> first | exact .inl (by assumption) | exact .inr (by assumption) | cases q
  · have q := h4 y hy
    rcases e with e | e <;> (simp only [e, Bool.or_eq_true, decide_eq_true_eq] at q; exact q)
end L2

namespace L2
open PySem PySem.Spec PyProof.Rows

section
variable {prog : Program} {w : World} {A : Around} {R : Result → Shared → Prop} {s : Shared} {elt t0 i0 t1 i1 : Expr} {ifs0 ifs1 : List Expr} {scope : Scope} {pos : Pos} {it acc : Value} {env : Env}
end

section
variable {X : Cx}
end
end L2

namespace L2
open PySem PySem.Spec PyProof.Rows

/-! ### lists of pairs as tables -/
section
variable {κ : Type} [DecidableEq κ]
def valV (kvs : List (κ × V)) (k : κ) : Option V := (kvs.find? fun kv => decide (kv.1 = k)).map (·.2)
/-- in its place, or at the end -/
def putK (kvs : List (κ × V)) (k : κ) (v : V) : List (κ × V) :=
  if (kvs.any fun kv => decide (kv.1 = k)) = true then kvs.map (fun kv => if kv.1 = k then (kv.1, v) else kv) else kvs ++ [(k, v)]

theorem valV_pos {p : κ × V} {r : List (κ × V)} {k : κ} (e : p.1 = k) : valV (p :: r) k = some p.2 := by simp [valV, List.find?_cons, e]
theorem valV_neg {p : κ × V} {r : List (κ × V)} {k : κ} (e : ¬ p.1 = k) : valV (p :: r) k = valV r k := by simp [valV, List.find?_cons, e]
theorem valV_any (k : κ) : ∀ kvs : List (κ × V), (kvs.any fun kv => decide (kv.1 = k)) = (valV kvs k).isSome
  | [] => rfl
  | p :: r => by
    rw [List.any_cons]
    by_cases e : p.1 = k
    · simp only [valV_pos e, decide_eq_true e, Bool.true_or, Option.isSome_some]
    · rw [valV_neg e, decide_eq_false e, Bool.false_or]; exact valV_any k r
theorem length_putK (kvs : List (κ × V)) (k : κ) (v : V) : (putK kvs k v).length ≤ kvs.length + 1 := by
  unfold putK
  split
  · rw [List.length_map]; omega
  · rw [List.length_append, List.length_cons, List.length_nil]; omega
theorem putK_new {kvs : List (κ × V)} {k : κ} (v : V) (h : valV kvs k = none) : putK kvs k v = kvs ++ [(k, v)] := by
  unfold putK
  rw [valV_any, h]
  exact if_neg (by decide)

theorem RelO.isSome_eq {o : Option V} {u : Option Value} (r : RelO o u) : o.isSome = u.isSome := by
  cases o with
  | none => cases u with
    | none => rfl
    | some _ => exact (show False from r).elim
  | some _ => cases u with
    | none => exact (show False from r).elim
    | some _ => rfl
theorem RelO.getD {o : Option V} {u : Option Value} {d : V} {d' : Value} (r : RelO o u) (rd : RelV d d') : RelV (o.getD d) (u.getD d') := by
  cases o with
  | none => cases u with
    | none => exact rd
    | some _ => exact (show False from r).elim
  | some _ => cases u with
    | none => exact (show False from r).elim
    | some _ => exact r

/-- raw tables of the same keys -/
theorem KV.val {kvs : List (κ × V)} {vs : List (κ × Value)} (r : KV kvs vs) (k : κ) : RelO (valV kvs k) (valueAt vs k) := by
  unfold KV at r
  induction r with
  | nil => exact True.intro
  | @cons p q ps qs h t ih =>
    obtain ⟨h1, h2⟩ := h
    by_cases e : p.1 = k
    · have e' : q.1 = k := h1.symm.trans e
      have b : valueAt (q :: qs) k = some q.2 := by simp [valueAt, List.find?_cons, e']
      rw [valV_pos e, b]; exact h2
    · have e' : ¬ q.1 = k := fun z => e (h1.trans z)
      have b : valueAt (q :: qs) k = valueAt qs k := by simp [valueAt, List.find?_cons, e']
      rw [valV_neg e, b]; exact ih
theorem KV.any {kvs : List (κ × V)} {vs : List (κ × Value)} (r : KV kvs vs) (k : κ) : (kvs.any fun kv => decide (kv.1 = k)) = vs.any fun kv => decide (kv.1 = k) := by
  unfold KV at r
  induction r with
  | nil => rfl
  | cons h t ih => rw [List.any_cons, List.any_cons, ih, h.1]
theorem KV.repl {kvs : List (κ × V)} {vs : List (κ × Value)} (r : KV kvs vs) (k : κ) {y : V} {u : Value} (ry : RelV y u) :
    KV (kvs.map fun kv => if kv.1 = k then (kv.1, y) else kv) (vs.map fun kv => if kv.1 = k then (kv.1, u) else kv) := by
  unfold KV at r ⊢
  induction r with
  | nil => exact .nil
  | @cons p q ps qs h t ih =>
    rw [List.map_cons, List.map_cons]
    refine .cons ?_ ih
    obtain ⟨h1, h2⟩ := h
    by_cases e : p.1 = k
    · rw [if_pos e, if_pos (h1.symm.trans e)]; exact ⟨h1, ry⟩
    · rw [if_neg e, if_neg (fun z => e (h1.trans z))]; exact ⟨h1, h2⟩
theorem KV.put {kvs : List (κ × V)} {vs : List (κ × Value)} (r : KV kvs vs) (k : κ) {y : V} {u : Value} (ry : RelV y u) : KV (putK kvs k y) (stored vs k u) := by
  unfold putK stored
  rw [r.any k]
  by_cases e : (vs.any fun kv => decide (kv.1 = k)) = true
  · rw [if_pos e, if_pos e]; exact r.repl k ry
  · rw [if_neg e, if_neg e]; exact Paired.snoc r ⟨rfl, ry⟩
theorem KV.length {kvs : List (κ × V)} {vs : List (κ × Value)} (r : KV kvs vs) : kvs.length = vs.length := Paired.length r
end

/-! ### a tracked dict, its keys ints and texts or tuples of these -/
theorem kV_is {P : Program} {w : World} {k : Key} {u : Value} (r : RelV (kV k) u) : (mixKind P w).is k u = true := by
  cases k with
  | inl i => obtain ⟨t, e⟩ := (show ∃ t, u = Value.int i t from r); subst e; exact mixKind_int P w i t
  | inr x => obtain ⟨t, e⟩ := (show ∃ t, u = Value.str x t from r); subst e; exact mixKind_str P w x t
theorem items_are {P : Program} {w : World} : ∀ {ks : List Key} {us : List Value}, Vals (ks.map kV) us → ItemsAre (mixKind P w) ks us
  | [], _, r => by rw [List.map_nil] at r; cases r; exact .nil
  | k :: ks, _, r => by
    rw [List.map_cons] at r
    cases r with
    | cons h t => exact .cons (kV_is h) (items_are t)

/-- raw entries of a dict with tuple keys -/
abbrev KT (H : Hp) : List (List Key × V) → List (List Key × Addr × Value) → Prop := Paired fun p q => p.1 = q.1 ∧ H q.2.1 = some (.tup (p.1.map kV)) ∧ RelV p.2 q.2.2
theorem KT.val {H : Hp} {kvs : List (List Key × V)} {xs : List (List Key × Addr × Value)} (r : KT H kvs xs) (k : List Key) : RelO (valV kvs k) ((atKey xs k).map (·.2)) := by
  induction r with
  | nil => exact True.intro
  | @cons p q ps qs h t ih =>
    obtain ⟨h1, _, h2⟩ := h
    by_cases e : p.1 = k
    · have e' : q.1 = k := h1.symm.trans e
      have b : atKey (q :: qs) k = some q.2 := by simp [atKey, List.find?_cons, e']
      rw [valV_pos e, b]; exact h2
    · have e' : ¬ q.1 = k := fun z => e (h1.trans z)
      have b : atKey (q :: qs) k = atKey qs k := by simp [atKey, List.find?_cons, e']
      rw [valV_neg e, b]; exact ih
theorem KT.repl {H : Hp} {kvs : List (List Key × V)} {xs : List (List Key × Addr × Value)} (r : KT H kvs xs) (k : List Key) {y : V} {u : Value} (ry : RelV y u) :
    KT H (kvs.map fun kv => if kv.1 = k then (kv.1, y) else kv) (xs.map (putAt k u)) := by
  induction r with
  | nil => exact .nil
  | @cons p q ps qs h t ih =>
    rw [List.map_cons, List.map_cons]
    refine .cons ?_ ih
    obtain ⟨h1, h2, h3⟩ := h
    unfold putAt
    by_cases e : p.1 = k
    · rw [if_pos e, if_pos (h1.symm.trans e)]; exact ⟨h1, h2, ry⟩
    · rw [if_neg e, if_neg (fun z => e (h1.trans z))]; exact ⟨h1, h2, h3⟩
theorem KT.put {H : Hp} {kvs : List (List Key × V)} {xs : List (List Key × Addr × Value)} (r : KT H kvs xs) (k : List Key) {b : Addr} {y : V} {u : Value} (hb : H b = some (.tup (k.map kV))) (ry : RelV y u) :
    KT H (putK kvs k y) (storedH xs k b u) := by
  have e : (kvs.any fun kv => decide (kv.1 = k)) = (atKey xs k).isSome := by
    rw [valV_any, (r.val k).isSome_eq, Option.isSome_map]
  unfold putK storedH
  rw [e]
  by_cases q : (atKey xs k).isSome = true
  · rw [if_pos q, if_pos q]; exact r.repl k ry
  · rw [if_neg q, if_neg q]; exact Paired.snoc r ⟨rfl, hb, ry⟩
theorem KT.keeps {H H' : Hp} {kvs : List (List Key × V)} {xs : List (List Key × Addr × Value)} (r : KT H kvs xs) (ht : ∀ b ys, H b = some (.tup ys) → H' b = some (.tup ys)) : KT H' kvs xs :=
  Paired.mapP r fun _ _ z => ⟨z.1, ht _ _ z.2.1, z.2.2⟩

section
variable {P : Program} {w : World} {H : Hp} {h : Heap} {a : Addr}
theorem rd_of {u : HO} (ok : HOk P w H h) (e : Rd H a u) : ObjOk P w H h a u := e.ok ok
theorem dk_rd {kvs : List (Key × V)} (ok : HOk P w H h) (e : Rd H a (.dK kvs)) : kvs.length ≤ sizeLine ∧ (a == sysModules) = false ∧ ∃ vs, KV kvs vs ∧ h.DictOf (mixKind P w) a vs :=
  show ObjOk P w H h a (.dK kvs) from rd_of ok e
theorem dk_of {kvs : List (Key × V)} (ok : HOk P w H h) (e : H a = some (.dK kvs)) : kvs.length ≤ sizeLine ∧ (a == sysModules) = false ∧ ∃ vs, KV kvs vs ∧ h.DictOf (mixKind P w) a vs := dk_rd ok (.inl e)
/-- a tracked tuple of ints and texts is a key -/
theorem key_of {ks : List Key} (ok : HOk P w H h) (e : H a = some (.tup (ks.map kV))) : (tupleKind (mixKind P w)).is h ks a := by
  obtain ⟨_, its, r, o, h1, h2, n, h3⟩ := (show ObjOk P w H h a (.tup (ks.map kV)) from ok a _ e)
  exact ⟨o, its.toArray, n, h1, h2, h3, by simpa using items_are r⟩
theorem dt_rd {kvs : List (List Key × V)} (ok : HOk P w H h) (e : Rd H a (.dT kvs)) : kvs.length ≤ sizeLine ∧ (a == sysModules) = false ∧
    ∃ xs, KT H kvs xs ∧ h.DictOfH (tupleKind (mixKind P w)) a xs := by
  obtain ⟨z, y, xs, r, o, es, ep, h1, h2, h3, h4, h5⟩ := (show ObjOk P w H h a (.dT kvs) from rd_of ok e)
  refine ⟨z, y, xs, r, o, es, ep, h1, h2, h3, h4, fun x hx => ?_, h5⟩
  have all : ∀ {l : List (List Key × V)} {m : List (List Key × Addr × Value)}, KT H l m → ∀ x ∈ m, (tupleKind (mixKind P w)).is h x.1 x.2.1 := by
    intro l m q
    induction q with
    | nil => intro x hx; exact nomatch hx
    | @cons p q ps qs hq t ih =>
      intro x hx
      rcases List.mem_cons.mp hx with e | hx
      · subst e
        exact key_of ok (by rw [← hq.1]; exact hq.2.1)
      · exact ih x hx
  exact all r x hx
theorem dt_of {kvs : List (List Key × V)} (ok : HOk P w H h) (e : H a = some (.dT kvs)) : kvs.length ≤ sizeLine ∧ (a == sysModules) = false ∧
    ∃ xs, KT H kvs xs ∧ h.DictOfH (tupleKind (mixKind P w)) a xs := dt_rd ok (.inl e)
end

/-- what the dict at a holds at the key y -/
def DGet (H : Hp) (a : Addr) (y : V) (r : Option V) : Prop :=
  (∃ kvs k, Rd H a (.dK kvs) ∧ y = kV k ∧ r = valV kvs k) ∨ ∃ kvs k b, Rd H a (.dT kvs) ∧ y = .ref b ∧ H b = some (.tup (k.map kV)) ∧ r = valV kvs k
/-- the heap behind a[y] = v -/
def DPut (H : Hp) (a : Addr) (y v : V) (H' : Hp) : Prop :=
  (∃ kvs k, H a = some (.dK kvs) ∧ y = kV k ∧ kvs.length < sizeLine ∧ H' = upd H a (.dK (putK kvs k v))) ∨
  ∃ kvs k b, H a = some (.dT kvs) ∧ y = .ref b ∧ H b = some (.tup (k.map kV)) ∧ kvs.length < sizeLine ∧ H' = upd H a (.dT (putK kvs k v))
theorem DGet.t {H : Hp} {a b : Addr} {kvs : List (List Key × V)} {k : List Key} (e : H a = some (.dT kvs)) (eb : H b = some (.tup (k.map kV))) : DGet H a (.ref b) (valV kvs k) := .inr ⟨kvs, k, b, .inl e, rfl, eb, rfl⟩
theorem DPut.t {H : Hp} {a b : Addr} {kvs : List (List Key × V)} {k : List Key} {v : V} (e : H a = some (.dT kvs)) (eb : H b = some (.tup (k.map kV))) (hl : kvs.length < sizeLine) :
    DPut H a (.ref b) v (upd H a (.dT (putK kvs k v))) := .inr ⟨kvs, k, b, e, rfl, eb, hl, rfl⟩

section
variable {X : Cx} {pins : List (Addr × Obj)} {σ : St} {H : Hp} {s : Shared} {a : Addr} {y v : V} {u r : Value} {o : Option V} {A : Around} {E : Value → Shared → Prop}

theorem Inv.big (I : Inv X pins σ H s) : sysModules < s.heap.objs.size := by
  have h : mainGlobals < s.heap.objs.size := (I.mod.glob.keeps I.bk).lt
  exact Nat.lt_trans (by decide) h

/-- d[y], there -/
theorem d_getItem {Q : Value → Shared → Prop} (hu : A.units + 1 < cLine) (I : Inv X pins σ H s) (g : DGet H a y (some v)) (ry : RelV y u) (h : ∀ w' s', Inv X pins σ H s' → RelV v w' → Q w' s') :
    wpAny (model X.prog X.w) A (getItem (.ref a) u) Q E s := by
  rcases g with ⟨kvs, k, e, ey, l⟩ | ⟨kvs, k, b, e, ey, eb, l⟩
  · subst ey
    obtain ⟨z, hd, vs, rel, dd⟩ := dk_rd I.hok e
    obtain ⟨w', hw, rw'⟩ := RelO.some_of (v := v) (o := valueAt vs k) (by rw [l]; exact rel.val k)
    exact wpAny_getItem_of (kV_is ry) dd.mapOf hw (h w' _ (I.tok _) rw')
  · subst ey
    cases (show u = Value.ref b from ry)
    obtain ⟨z, hd, xs, rel, dd⟩ := dt_rd I.hok e
    obtain ⟨w', hw, rw'⟩ := RelO.some_of (v := v) (o := (atKey xs k).map (·.2)) (by rw [l]; exact rel.val k)
    obtain ⟨p, hp, hp2⟩ := Option.map_eq_some_iff.mp hw
    refine wpAny_getItem_heap (tupleKind_room_in1 hu) (key_of I.hok eb) dd hp ?_
    rw [hp2]
    exact h w' _ (I.tok _) rw'
/-- y in d -/
theorem d_in {Q : Value → Shared → Prop} (hu : A.units + 1 < cLine) (I : Inv X pins σ H s) (g : DGet H a y o) (ry : RelV y u) (h : ∀ s', Inv X pins σ H s' → Q (.bool o.isSome) s') :
    wpAny (model X.prog X.w) A (compareOp .In u (.ref a)) Q E s := by
  rcases g with ⟨kvs, k, e, ey, l⟩ | ⟨kvs, k, b, e, ey, eb, l⟩
  · subst ey
    obtain ⟨z, hd, vs, rel, dd⟩ := dk_rd I.hok e
    refine wpAny_in_of (kV_is ry) hd dd.mapOf ?_
    rw [← (rel.val k).isSome_eq, ← l]
    exact h _ (I.tok _)
  · subst ey
    cases (show u = Value.ref b from ry)
    obtain ⟨z, hd, xs, rel, dd⟩ := dt_rd I.hok e
    refine wpAny_in_heap (tupleKind_room_in1 hu) (key_of I.hok eb) hd dd ?_
    have q := (rel.val k).isSome_eq
    rw [Option.isSome_map] at q
    rw [← q, ← l]
    exact h _ (I.tok _)
theorem d_notIn {Q : Value → Shared → Prop} (hu : A.units + 1 < cLine) (I : Inv X pins σ H s) (g : DGet H a y o) (ry : RelV y u) (h : ∀ s', Inv X pins σ H s' → Q (.bool (!o.isSome)) s') :
    wpAny (model X.prog X.w) A (compareOp .NotIn u (.ref a)) Q E s := by
  rcases g with ⟨kvs, k, e, ey, l⟩ | ⟨kvs, k, b, e, ey, eb, l⟩
  · subst ey
    obtain ⟨z, hd, vs, rel, dd⟩ := dk_rd I.hok e
    refine wpAny_notIn_of (kV_is ry) hd dd.mapOf ?_
    rw [← (rel.val k).isSome_eq, ← l]
    exact h _ (I.tok _)
  · subst ey
    cases (show u = Value.ref b from ry)
    obtain ⟨z, hd, xs, rel, dd⟩ := dt_rd I.hok e
    refine wpAny_notIn_heap (tupleKind_room_in1 hu) (key_of I.hok eb) hd dd ?_
    have q := (rel.val k).isSome_eq
    rw [Option.isSome_map] at q
    rw [← q, ← l]
    exact h _ (I.tok _)
/-- a dict's object is replaced -/
theorem d_write {h' : Heap} {t' : Nat} {ob : HO} (I : Inv X pins σ H s) (mu : Mut (H a)) (hs : Heap.SameBut a s.heap h') (he : ∃ q, h'.get? a = some q) (new : ObjOk X.prog X.w (upd H a ob) h' a ob) :
    Inv X pins σ (upd H a ob) { s with heap := h', toks := t' } :=
  I.write (x := a) (e := a) mu (.inl rfl) (fun b q hb z => (hs.2 b hb).trans z) he new
theorem dk_new {P : Program} {w : World} {H' : Hp} {h' : Heap} {kvs : List (Key × V)} {vs : List (Key × Value)} (z : kvs.length ≤ sizeLine) (hd : (a == sysModules) = false) (rel : KV kvs vs) (dd : h'.DictOf (mixKind P w) a vs) :
    ObjOk P w H' h' a (.dK kvs) := ⟨z, hd, vs, rel, dd⟩
/-- d[y] = v -/
theorem d_setItem {H' : Hp} {Q : Unit → Shared → Prop} (hu : A.units + 1 < cLine) (I : Inv X pins σ H s) (g : DPut H a y v H') (ry : RelV y u) (rv : RelV v r) (h : ∀ s', Inv X pins σ H' s' → Q () s') :
    wpAny (model X.prog X.w) A (setItem (.ref a) u r) Q E s := by
  rcases g with ⟨kvs, k, e, ey, l, eH⟩ | ⟨kvs, k, b, e, ey, eb, l, eH⟩
  · subst ey eH
    obtain ⟨z, hd, vs, rel, dd⟩ := dk_of I.hok e
    have hz : vs.length ≤ sizeLine := by rw [← rel.length]; exact z
    have hl : (putK kvs k v).length ≤ sizeLine := by have := length_putK kvs k v; omega
    refine wpAny_setItem_pairs (hsz := hz) (kV_is ry) dd fun h' dd' hs => h _ ?_
    have he : ∃ q, h'.get? a = some q := let ⟨q, _, _, hq, _⟩ := dd'; ⟨q, hq⟩
    exact d_write I (by rw [e]; exact True.intro) hs he (dk_new hl hd (rel.put k rv) dd')
  · subst ey eH
    cases (show u = Value.ref b from ry)
    obtain ⟨z, hd, xs, rel, dd⟩ := dt_of I.hok e
    have hz : xs.length ≤ sizeLine := by rw [← Paired.length rel]; exact z
    have hl : (putK kvs k v).length ≤ sizeLine := by have := length_putK kvs k v; omega
    refine wpAny_setItem_heap (hsz := hz) (tupleKind_room_in1 hu) (key_of I.hok eb) dd fun h' dd' hs => h _ ?_
    obtain ⟨q, es, ep, hq, h2, h3, h4, _, h5⟩ := dd'
    refine d_write I (by rw [e]; exact True.intro) hs ⟨q, hq⟩ ⟨hl, hd, _, (rel.put k eb rv).keeps fun c ys ec => ?_, q, es, ep, hq, h2, h3, h4, h5⟩
    rw [upd_ne (ne_of ec e (fun z => nomatch z))]
    exact ec
end

section
variable {X : Cx} {pins : List (Addr × Obj)} {σ : St} {H : Hp} {s : Shared} {a : Addr} {kvs : List (Key × V)} {k : Key} {u : Value} {A : Around} {E : Value → Shared → Prop}
end

/-! ### readings and rules -/
/-- the element of a subscription, not a slice -/
def NoSl (i : Expr) : Prop := ∀ ov iv, subscripted i false ov iv = operate [ov, iv] (getItem ov iv)
theorem subD_of {prog : Program} {w : World} {A : Around} {E : Value → Shared → Prop} {s : Shared} {env : Env} {value slice : Expr} {pos : Pos} {T id : String} {Q : Value → Shared → Prop}
    (hl : typeLookup (.type T) "__getitem__" = pure (some (.builtin id))) (hs : NoSl slice)
    (h : wpAny (model prog w) A (eval value env) (fun o s₁ => wpAny (model prog w) A (eval slice env) (fun i s₂ => s₂.TypeIs o T ∧ wpAny (model prog w) A (getItem o i) Q E s₂) E s₁) E s) :
    wpAny (model prog w) A (eval (.Subscript value slice pos) env) Q E s := by
  refine Subscript_ (wpAny_mono h (fun o s₁ h₁ => wpAny_mono h₁ (fun i s₂ h₂ => ?_) fun _ _ x => x) fun _ _ x => x)
  obtain ⟨hT, h₂⟩ := h₂
  unfold subscriptTail
  refine wpAny_bind ?_
  rw [getitemInPython_of_ne hT.not_modules]
  refine wpAny_bind (wpAny_specialOf hT hl ?_)
  have fin : wpAny (model prog w) A (subscripted slice false o i) (fun r s₃ => wpAny (model prog w) A (letTemporaryGo value o r >>= fun _ => pure r) Q E s₃) E s₂ := by
    rw [hs o i]
    exact wpAny_operating (wpAny_mono h₂ (fun r s₃ h₃ => wpAny_bind (wpAny_letTemporaryGo (wpAny_pure h₃))) fun _ _ x => x)
  first
    | exact wpAny_pure (wpAny_bind fin)
    | exact wpAny_bind (wpAny_pure (wpAny_bind fin))
    | exact wpAny_bind fin

theorem dict_typeIs {X : Cx} {pins : List (Addr × Obj)} {σ : St} {H : Hp} {s : Shared} {a : Addr} {y : V} {o : Option V} (I : Inv X pins σ H s) (g : DGet H a y o) : s.TypeIs (.ref a) "dict" := by
  rcases g with ⟨kvs, k, e, _, _⟩ | ⟨kvs, k, b, e, _, _, _⟩
  · obtain ⟨_, _, vs, _, dd⟩ := dk_rd I.hok e
    exact dd.typeIs
  · obtain ⟨_, _, xs, _, dd⟩ := dt_rd I.hok e
    exact dd.typeIs

/-- d[y] -/
def tDGet (td ty : TE) : TE := fun σ H Q => td σ H fun x H1 => ty σ H1 fun y H2 => ∃ a v, x = .ref a ∧ DGet H2 a y (some v) ∧ Q v H2
/-- y in d, y not in d -/
def tDIn (ty td : TE) : TE := fun σ H Q => ty σ H fun y H1 => td σ H1 fun x H2 => ∃ a o, x = .ref a ∧ DGet H2 a y o ∧ Q (.bl o.isSome) H2
def tDNotIn (ty td : TE) : TE := fun σ H Q => ty σ H fun y H1 => td σ H1 fun x H2 => ∃ a o, x = .ref a ∧ DGet H2 a y o ∧ Q (.bl (!o.isSome)) H2
/-- d[y] = v -/
def sDPut (td ty tv : TE) : TS := fun D σ H => tv σ H fun v H1 => td σ H1 fun x H2 => ty σ H2 fun y H3 => ∃ a H4, x = .ref a ∧ DPut H3 a y v H4 ∧ D.nx σ H4

section
variable {X : Cx} {o i e value : Expr} {pos pos' tpos : Pos} {td ty tv : TE}
theorem pe_dget (hu : X.A.units + 1 < cLine) (ho : PE X o td) (hi : PE X i ty) (hs : NoSl i) : PE X (.Subscript o i pos) (tDGet td ty) := by
  intro pins s σ H Q I h
  refine subD_of PySem.F.slot_dict_getitem.lookup hs (thn (ho pins s σ H _ I h) fun u s1 ⟨x, H1, I1, rx, q1⟩ => thn (hi pins s1 σ H1 _ I1 q1) fun iv s2 ⟨y, H2, I2, ry, a, v, ex, g, q2⟩ => ?_)
  subst ex
  obtain rfl : u = Value.ref a := rx
  exact ⟨dict_typeIs I2 g, d_getItem hu I2 g ry fun w' s3 I3 rw' => ⟨v, H2, I3, rw', q2⟩⟩
theorem pc_din (hu : X.A.units + 1 < cLine) (hi : PE X i ty) (ho : PE X o td) : PC X .In i o (tDIn ty td) := by
  intro pins s σ H Q I h
  refine thn (hi pins s σ H _ I h) fun iv s1 ⟨y, H1, I1, ry, q1⟩ => thn (ho pins s1 σ H1 _ I1 q1) fun u s2 ⟨x, H2, I2, rx, a, ov, ex, g, q2⟩ => ?_
  subst ex
  obtain rfl : u = Value.ref a := rx
  exact d_in hu I2 g ry fun s3 I3 => ⟨.bl ov.isSome, H2, I3, rfl, q2⟩
theorem pc_dnotin (hu : X.A.units + 1 < cLine) (hi : PE X i ty) (ho : PE X o td) : PC X .NotIn i o (tDNotIn ty td) := by
  intro pins s σ H Q I h
  refine thn (hi pins s σ H _ I h) fun iv s1 ⟨y, H1, I1, ry, q1⟩ => thn (ho pins s1 σ H1 _ I1 q1) fun u s2 ⟨x, H2, I2, rx, a, ov, ex, g, q2⟩ => ?_
  subst ex
  obtain rfl : u = Value.ref a := rx
  exact d_notIn hu I2 g ry fun s3 I3 => ⟨.bl (!ov.isSome), H2, I3, rfl, q2⟩
theorem ps_dput (hu : X.A.units + 1 < cLine) (ho : PE X o td) (hi : PE X i ty) (hv : PE X value tv) (hs : swapsWith value (some (.Subscript o i pos')) pos.line X.env = pure false) :
    PS X (.Assign [.Subscript o i pos'] value pos) (sDPut td ty tv) := by
  intro pins s σ H D I h
  refine wpAny_Assign_Subscript (thn (hv pins s σ H _ I h) fun r s1 ⟨v, H1, I1, rv, q1⟩ => thn (ho pins s1 σ H1 _ I1 q1) fun u s2 ⟨x, H2, I2, rx, q2⟩ => thn (hi pins s2 σ H2 _ I2 q2) fun iv s3 ⟨y, H3, I3, ry, a, H4, ex, g, q3⟩ => ?_) hs
  subst ex
  obtain rfl : u = Value.ref a := rx
  exact d_setItem hu I3 g ry rv fun s4 I4 => ⟨σ, H4, I4, q3⟩
end

/-! ### displays -/
theorem dt_empty {P : Program} {w : World} {H : Hp} (h : Heap) (hb : sysModules < h.objs.size) : ObjOk P w H (h.push { cls := .type "dict", data := .dict #[] }) h.objs.size (.dT []) :=
  ⟨Nat.zero_le _, beq_eq_false_iff_ne.mpr (Ne.symm (Nat.ne_of_lt hb)), [], .nil, _, #[], 0, Heap.get?_push_size _ rfl, ⟨rfl, rfl, rfl⟩, rfl, rfl, List.nodup_nil⟩
def tDNewT : TE := fun _ H Q => ∀ p, H p = none → Q (.ref p) (upd H p (.dT []))
section
variable {X : Cx} {pos : Pos}
theorem pe_dnewT : PE X (.Dict [] [] pos) tDNewT := fun pins s σ H Q I h =>
  wpAny_Dict_empty ⟨.ref s.heap.objs.size, _, I.laid (a := s.heap.objs.size) (o := .dT []) (t' := s.toks) (fun _ _ q => Heap.get?_push_of_some _ q) (Nat.le_refl _) (dt_empty s.heap I.big), rfl, h _ (I.hok.fresh (Nat.le_refl _))⟩
end

/-! ### methods -/
structure M2 (X : Cx) (o : Expr) (m : Str) (apos : Pos) (e f : Expr) (cpos : Pos) : Prop where
  base : attributeBase o m X.env (eval o X.env) = eval o X.env
  few : ((backTo cpos (starEach [e, f] X.env)).all (fun x => !x.1) && (backToKw cpos (keywordEach [] X.env)).all (fun x => x.1.isSome)
    && decide (([e, f] : List Expr).length + ([] : List Keyword).length + (if ([] : List Keyword).isEmpty then 0 else 1) < 30)) = true
  line : (apos.endLine == cpos.line) = true
  trees : backTo cpos (starEach [e, f] X.env) = [(false, eval e X.env), (false, eval f X.env)]

/-- a is a dict, whatever its keys -/
def IsD (H : Hp) (a : Addr) : Prop := (∃ kvs, Rd H a (.dK kvs)) ∨ ∃ kvs, Rd H a (.dT kvs)
theorem isD_at {X : Cx} {pins : List (Addr × Obj)} {σ : St} {H : Hp} {s : Shared} {a : Addr} (I : Inv X pins σ H s) (d : IsD H a) :
    s.TypeIs (.ref a) "dict" ∧ (∀ b, Value.ref a = .ref b → ∃ ob, s.heap.get? b = some ob ∧ ob.dict = none) ∧ (a == sysModules) = false := by
  rcases d with ⟨kvs, e⟩ | ⟨kvs, e⟩
  · obtain ⟨_, hd, vs, _, dd⟩ := dk_rd I.hok e
    refine ⟨dd.typeIs, fun b q => ?_, hd⟩
    cases q
    obtain ⟨ob, _, _, h1, h2, _⟩ := dd
    exact ⟨ob, h1, h2.2.1⟩
  · obtain ⟨_, hd, xs, _, dd⟩ := dt_rd I.hok e
    refine ⟨dd.typeIs, fun b q => ?_, hd⟩
    cases q
    obtain ⟨ob, _, _, h1, h2, _⟩ := dd
    exact ⟨ob, h1, h2.2.1⟩

section
variable {X : Cx} {pins : List (Addr × Obj)} {σ : St} {H : Hp} {s : Shared} {a : Addr} {y d : V} {u r : Value} {o : Option V} {A : Around} {E : Value → Shared → Prop}
/-- d.get(y, x) -/
theorem d_get2 {Q : Value → Shared → Prop} (hu : A.units + 1 < cLine) (I : Inv X pins σ H s) (g : DGet H a y o) (ry : RelV y u) (rd : RelV d r) (h : ∀ w' s', Inv X pins σ H s' → RelV (o.getD d) w' → Q w' s') :
    wpAny (model X.prog X.w) A (call (.builtin "dict.get") [.ref a, u, r]) Q E s := by
  rcases g with ⟨kvs, k, e, ey, l⟩ | ⟨kvs, k, b, e, ey, eb, l⟩
  · subst ey
    obtain ⟨z, hd, vs, rel, dd⟩ := dk_rd I.hok e
    refine call_meetsIn PySem.F.slot_dict_get dd.typeIs PySem.F.entry_dict_get (PySem.F.args_dict_get_3 _ _ _) (meets_dict_get_default (mixKind X.prog X.w) a (kV_is ry) hd r) ⟨_, dd.mapOf, h _ _ (I.tok _) ?_⟩
    rw [l]
    exact (rel.val k).getD rd
  · subst ey
    cases (show u = Value.ref b from ry)
    obtain ⟨z, hd, xs, rel, dd⟩ := dt_rd I.hok e
    refine call_meetsIn PySem.F.slot_dict_get dd.typeIs PySem.F.entry_dict_get (PySem.F.args_dict_get_3 _ _ _) (meetsH_dict_get_default (tupleKind (mixKind X.prog X.w)) a b hd r) ⟨tupleKind_room_in1 hu, k, xs, key_of I.hok eb, dd, h _ _ (I.tok _) ?_⟩
    rw [l]
    exact (rel.val k).getD rd
end

def tDGet2 (td ty tx : TE) : TE := fun σ H Q => td σ H fun x H1 => ∃ a, x = .ref a ∧ IsD H1 a ∧ ty σ H1 fun y H2 => tx σ H2 fun z H3 => ∃ o, DGet H3 a y o ∧ Q (o.getD z) H3
section
variable {X : Cx} {o e f : Expr} {apos cpos : Pos} {td ty tx : TE}
theorem pe_dget2 (hu : X.A.units + 1 < cLine) (ho : PE X o td) (he : PE X e ty) (hf : PE X f tx) (m : M2 X o "get" apos e f cpos) : PE X (.Call (.Attribute o "get" apos) [e, f] [] cpos) (tDGet2 td ty tx) := by
  intro pins s σ H Q I h
  refine wpAny_Call_method m.base m.few m.line PySem.F.plainAttrs_dict PySem.F.slot_dict_get PySem.F.type_dict_get (thn (ho pins s σ H _ I h) fun u s1 ⟨x, H1, I1, rx, a, ex, d, q1⟩ => ?_)
  subst ex
  obtain rfl : u = Value.ref a := rx
  obtain ⟨t1, t2, _⟩ := isD_at I1 d
  refine ⟨t1, t2, ?_⟩
  rw [m.trees]
  refine Calls.callWith_builtin rfl (Calls.evalArgs_plain (Calls.spliced_cons (thn (he pins s1 σ H1 _ I1 q1) fun iv s2 ⟨y, H2, I2, ry, q2⟩ =>
    Calls.spliced_cons (thn (hf pins s2 σ H2 _ I2 q2) fun fv s3 ⟨z, H3, I3, rz, ov, g, q3⟩ => Calls.spliced_nil ?_))))
  exact d_get2 hu I3 g ry rz fun w' s4 I4 rw' => ⟨_, H3, I4, rw', q3⟩
end

/-! ### dict(d): a copy -/
section
variable {X : Cx} {pins : List (Addr × Obj)} {σ : St} {H : Hp} {s : Shared} {a : Addr} {kvs : List (Key × V)} {A : Around} {E : Value → Shared → Prop}
end

section
variable {X : Cx} {pins : List (Addr × Obj)} {σ : St} {H : Hp} {s : Shared} {a : Addr} {y : V} {u : Value} {A : Around} {E : Value → Shared → Prop}
end
end L2

namespace L2
open PySem PySem.Spec PyProof.Rows

section
variable {prog : Program} {w : World} {A : Around} {E : Value → Shared → Prop}

end

section
variable {X : Cx}
end
end L2

namespace L2
open PySem PySem.Spec PyProof.Rows

section
variable {X : Cx} {pins : List (Addr × Obj)} {σ : St} {H : Hp} {s : Shared} {h' : Heap}

/-! ### locking a thing while a statement runs -/
theorem Inv.lock {d : Addr} {u : HO} (I : Inv X pins σ H s) (h : H d = some u) (mu : Mut (some u)) : ∃ od, Inv X pins σ (upd H d (.frz od u)) s := by
  have x := I.hok d u h
  have ex : ∃ od, s.heap.get? d = some od := by
    cases u with
    | lst xs => obtain ⟨_, _, _, _, e⟩ := x; exact ⟨_, e⟩
    | dK kvs => obtain ⟨_, _, _, _, o, _, _, e, _⟩ := x; exact ⟨o, e⟩
    | dT kvs => obtain ⟨_, _, _, _, o, _, _, e, _⟩ := x; exact ⟨o, e⟩
    | set S n => obtain ⟨o, _, _, _, e, _⟩ := x; exact ⟨o, e⟩
    | ins C dx fs => obtain ⟨_, _, _, e, _⟩ := x; exact ⟨_, e⟩
    | ext φ => obtain ⟨_, ⟨_, e⟩, _⟩ := x; exact ⟨_, e⟩
    | _ => exact False.elim mu
  obtain ⟨od, e⟩ := ex
  have new : ObjOk X.prog X.w (upd H d (.frz od u)) s.heap d (.frz od u) := by
    refine ⟨e, x.stay (fun b v _ q => q) (fun b q => ?_) fun b xs q => ?_⟩
    · rw [upd_ne (fun z => by rw [z, h] at q; cases q; exact mu)]; exact q
    · rw [upd_ne (fun z => by rw [z, h] at q; cases q; exact mu)]; exact q
  exact ⟨od, I.write (x := d) (e := d) (t' := s.toks) (h' := s.heap) (by rw [h]; exact mu) (.inl rfl) (fun b v _ q => q) ⟨od, e⟩ new⟩
theorem Inv.nofrz {d : Addr} {u : HO} (I : Inv X pins σ H s) (h : H d = some u) (mu : Mut (some u)) : ∀ o' u', X.H_0 d ≠ some (.frz o' u') := fun o' u' e => by
  have q := I.base.frzs d o' u' e
  rw [h] at q
  cases q
  exact mu
theorem Inv.unlock {d : Addr} {od : Obj} {u : HO} (I : Inv X pins σ H s) (h : H d = some (.frz od u)) (hn : ∀ o' u', X.H_0 d ≠ some (.frz o' u')) : Inv X pins σ (upd H d u) s := by
  have neH : ∀ b o, H b = some o → (∀ o' u', o ≠ .frz o' u') → b ≠ d := fun b o e hne z => by
    rw [z, h] at e
    cases e
    exact hne _ _ rfl
  have neN : ∀ b, H b = none → b ≠ d := fun b e z => by rw [z, h] at e; cases e
  refine ⟨I.ok, I.os, I.bare, ⟨I.base.keep, I.base.slot, fun b o e n hx => ?_, I.base.there, fun b xs e => ?_, fun b o x e => ?_, fun b ps e => ?_⟩, I.loc, I.cell, ?_, fun x c e => ?_, fun p hp => ?_, fun b o e => ?_, I.len⟩
  · rw [upd_ne (neN b (I.base.free b o e n hx))]; exact I.base.free b o e n hx
  · have q := I.base.tups b xs e
    rw [upd_ne (neH b _ q (fun _ _ z => nomatch z))]; exact q
  · have q := I.base.frzs b o x e
    rw [upd_ne (fun z => by rw [z] at e; exact hn _ _ e)]; exact q
  · obtain ⟨m, q⟩ := I.base.tbls b ps e
    exact ⟨m, by rw [upd_ne (neH b _ q (fun _ _ z => nomatch z))]; exact q⟩
  · rw [upd_ne (neN _ I.free)]; exact I.free
  · rw [upd_ne (neN c (I.freeC x c e))]; exact I.freeC x c e
  · obtain ⟨e, n, r⟩ := I.pin p hp
    exact ⟨e, by rw [upd_ne (neN _ n)]; exact n, r⟩
  · by_cases hb : b = d
    · rw [hb, upd_same] at e
      cases e
      rw [hb]
      obtain ⟨_, x⟩ := I.hok d _ h
      exact x.stay (fun c v _ q => q) (fun c q => by rw [upd_ne (neH c _ q (fun _ _ z => nomatch z))]; exact q) fun c xs q => by rw [upd_ne (neH c _ q (fun _ _ z => nomatch z))]; exact q
    · rw [upd_ne hb] at e
      exact (I.hok b o e).stay (fun c v _ q => q) (fun c q => by rw [upd_ne (neH c _ q (fun _ _ z => nomatch z))]; exact q) fun c xs q => by rw [upd_ne (neH c _ q (fun _ _ z => nomatch z))]; exact q
end
def tLockE (t : TE) : TE := fun σ H Q => ∃ d u, H d = some u ∧ Mut (some u) ∧ ∀ od, t σ (upd H d (.frz od u)) fun v H' => H' d = some (.frz od u) ∧ Q v (upd H' d u)
section
variable {X : Cx}
theorem pe_lock {e : Expr} {t : TE} (h : PE X e t) : PE X e (tLockE t) := by
  intro pins s σ H Q I hw
  obtain ⟨d, u, hd, mu, hw⟩ := hw
  obtain ⟨od, I1⟩ := I.lock hd mu
  refine thn (h pins s σ _ _ I1 (hw od)) fun v s1 ⟨x, H1, I2, r, e2, q⟩ => ?_
  exact ⟨x, _, I2.unlock e2 (I.nofrz hd mu), r, q⟩

/-! ### one iterator just laid -/
theorem pi_one {tg : Expr} {pins : List (Addr × Obj)} {σ : St} {H : Hp} {s : Shared} {R : It → Hp → Prop} {J : It} {tn : Nat → Heap → Prop} {tk : Nat} (I : Inv X pins σ H s) (o : Obj)
    (T : Turn X.prog X.w X.K tg J [s.heap.objs.size] s.heap.objs.size tn) (st : tn 0 (s.heap.push o)) (q : R J H) : PIE X pins σ tg R (.ref s.heap.objs.size) { s with heap := s.heap.push o, toks := tk } := by
  refine ⟨s.heap.objs.size, [s.heap.objs.size], tn, J, H, rfl, I.kept fun b ob e => Heap.get?_push_of_some _ e, T, st, fun b hb => ?_, q⟩
  have e : b = s.heap.objs.size := by simpa using hb
  subst e
  exact I.fpOk (Nat.le_refl _) (I.hok.fresh (Nat.le_refl _))
end

/-! ### range with a step -/
section
variable {X : Cx} {tg : Expr}
end

/-! ### reversed(list) -/
section
variable {X : Cx} {tg : Expr}
end

/-! ### a str -/

/-! ### a dict's keys: any dict's entries -/
section
variable {prog : Program} {w : World} {A : Around} {E : Value → Shared → Prop} {s : Shared}
theorem iter_keys {d : Addr} {o : Obj} {es : Array DictEntry} {ep : Nat} {Q : Value → Shared → Prop} (hd : (d == sysModules) = false) (ho : s.heap.get? d = some o) (hc : o.ExactDict) (hdat : o.data = .dict es ep)
    (hQ : Q (.ref s.heap.objs.size) { s with heap := s.heap.push { cls := .type "dict_keyiterator", data := .fields #[.ref d, .int 0 0, .int es.size 0, .int ep 0] } }) :
    wpAny (model prog w) A (pyIter (.ref d)) Q E s := by
  have hT : s.TypeIs (.ref d) "dict" := ⟨o, ho, hc.1⟩
  refine wpAny_pyIter_slot hT F.slot_dict_iter (wpAny_call_entry F.slot_dict_iter hT F.entry_dict_iter ?_ (F.args_dict_iter_1 _))
  unfold Builtin.«dict.__iter__»
  refine wpAny_bind ?_
  unfold Builtin.Dict.dictSlotNone
  refine wpAny_bind (wpAny_notOrdered_dict hT ?_)
  show wpAny _ _ (pure (Value.ref d)) _ _ s
  refine wpAny_pure ?_
  show wpAny _ _ (Builtin.Dict.showsAll d >>= _) _ _ s
  unfold Builtin.Dict.showsAll
  rw [if_neg (by rw [hd]; exact Bool.false_ne_true)]
  refine wpAny_bind (wpAny_pure ?_)
  refine wpAny_bind (wpAny_dictEntries ho hdat ?_)
  refine wpAny_bind (wpAny_dictEpoch ho hdat ?_)
  refine wpAny_bind (wpAny_newObj_type (wpAny_pure ⟨_, rfl, "dict_keyiterator", _, ⟨_, Heap.get?_push_size _ rfl, rfl⟩, F.slot_dict_keyiterator_next.lookup, ?_⟩))
  simpa [rawInt] using hQ
theorem next_key_item {it d : Addr} {i n ep : Nat} {od : Obj} {es : Array DictEntry} {en : DictEntry} {Q : Option Value → Shared → Prop} (hit : s.heap.IsKeyIter it d i n ep) (hod : s.heap.get? d = some od) (hdd : od.data = .dict es ep)
    (hsz : es.size = n) (hx : es[i]? = some en) (hQ : ∀ h', h'.IsKeyIter it d (i + 1) n ep → Heap.SameBut it s.heap h' → Q (some en.key) { s with heap := h' }) : wpAny (model prog w) A (pyNext (.ref it)) Q E s := by
  obtain ⟨o, ho, hc, hd⟩ := id hit
  unfold pyNext
  refine wpAny_bind (wpAny_attempt (wpAny_callSpecial?_slot (name := Str.ofString "__next__") hit.typeIs F.slot_dict_keyiterator_next
    (wpAny_call_entry F.slot_dict_keyiterator_next hit.typeIs F.entry_dict_keyiterator_next ?_ (F.args_dict_keyiterator_next_1 _))))
  refine wpAny_bind (wpAny_pure ?_)
  refine wpAny_bind ?_
  refine wpAny_bind ?_
  first | refine wpAny_bind (wpAny_typeNameOfWhole_keyiter hit.typeIs (wpAny_pure ?_)) | refine wpAny_bind (wpAny_typeNameOf_keyiter hit.typeIs (wpAny_pure ?_))
  refine wpAny_bind (wpAny_fieldsOf ho hd ?_)
  have hown : Builtin.Dict_items.ownsTuple "dict_keyiterator" = false := by decide
  simp only [hown, Bool.false_eq_true, if_false]
  show wpAny _ _ (if (Value.ref d == Value.none) = true then _ else _) _ _ s
  rw [if_neg (show ¬ ((Value.ref d == Value.none) = true) from Bool.false_ne_true)]
  refine wpAny_bind (wpAny_pure ?_)
  refine wpAny_bind (wpAny_dictEntries hod hdd ?_)
  rw [if_neg (by rw [hsz]; simp)]
  refine wpAny_bind (wpAny_pure ?_)
  refine wpAny_bind (wpAny_dictEpoch hod hdd ?_)
  rw [if_neg (by simp)]
  refine wpAny_pure ?_
  obtain ⟨hlt', hen⟩ := Array.getElem?_eq_some_iff.mp hx
  simp only [show ¬ ((i : Int) < 0) from by omega, if_false, Int.toNat_natCast, Array.getElem?_eq_getElem hlt']
  refine wpAny_bind ?_
  first | refine wpAny_bind (wpAny_typeNameOfWhole_keyiter hit.typeIs (wpAny_pure ?_)) | refine wpAny_bind (wpAny_typeNameOf_keyiter hit.typeIs (wpAny_pure ?_))
  refine wpAny_bind (wpAny_isOneOf_keyiter hit.typeIs ?_)
  show wpAny _ _ (setField (.ref it) 1 (rawInt ((i : Int) + 1)) >>= _) _ _ s
  refine wpAny_bind (wpAny_setField ho hd (by simp) ?_)
  have hit' : (s.heap.update it (Obj.mapFields (·.setIfInBounds 1 (rawInt ((i : Int) + 1))))).IsKeyIter it d (i + 1) n ep :=
    ⟨_, Heap.get?_update_self _ ho (Obj.isFreed_of_fields (Obj.data_mapFields hd _)), (Obj.cls_mapFields ..).trans hc, by rw [Obj.data_mapFields hd]; simp [rawInt]⟩
  refine wpAny_bind (wpAny_holding ?_)
  refine wpAny_bind (wpAny_isOneOf_keyiter (s := { s with heap := s.heap.update it (Obj.mapFields (·.setIfInBounds 1 (rawInt ((i : Int) + 1)))) }) hit'.typeIs ?_)
  show wpAny _ _ (pure es[i].key) _ _ _
  rw [hen]
  exact wpAny_pure (wpAny_pure ⟨_, rfl, wpAny_pure (hQ _ hit' (Heap.SameBut.update ..))⟩)
theorem next_key_end {it d : Addr} {i n ep : Nat} {od : Obj} {es : Array DictEntry} {Q : Option Value → Shared → Prop} (hh : A.handled = none) (hit : s.heap.IsKeyIter it d i n ep) (hod : s.heap.get? d = some od) (hdd : od.data = .dict es ep)
    (hsz : es.size = n) (hge : n ≤ i) (hQ : ∀ h', Heap.ExtBut it s.heap h' → Q none { s with heap := h' }) : wpAny (model prog w) A (pyNext (.ref it)) Q E s := by
  obtain ⟨o, ho, hc, hd⟩ := id hit
  unfold pyNext
  refine wpAny_bind (wpAny_attempt (wpAny_callSpecial?_slot (name := Str.ofString "__next__") hit.typeIs F.slot_dict_keyiterator_next
    (wpAny_call_entry F.slot_dict_keyiterator_next hit.typeIs F.entry_dict_keyiterator_next ?_ (F.args_dict_keyiterator_next_1 _))))
  refine wpAny_bind (wpAny_pure ?_)
  refine wpAny_bind ?_
  refine wpAny_bind ?_
  first | refine wpAny_bind (wpAny_typeNameOfWhole_keyiter hit.typeIs (wpAny_pure ?_)) | refine wpAny_bind (wpAny_typeNameOf_keyiter hit.typeIs (wpAny_pure ?_))
  refine wpAny_bind (wpAny_fieldsOf ho hd ?_)
  have hown : Builtin.Dict_items.ownsTuple "dict_keyiterator" = false := by decide
  simp only [hown, Bool.false_eq_true, if_false]
  show wpAny _ _ (if (Value.ref d == Value.none) = true then _ else _) _ _ s
  rw [if_neg (show ¬ ((Value.ref d == Value.none) = true) from Bool.false_ne_true)]
  refine wpAny_bind (wpAny_pure ?_)
  refine wpAny_bind (wpAny_dictEntries hod hdd ?_)
  rw [if_neg (by rw [hsz]; simp)]
  refine wpAny_bind (wpAny_pure ?_)
  refine wpAny_bind (wpAny_dictEpoch hod hdd ?_)
  rw [if_neg (by simp)]
  refine wpAny_pure ?_
  have hge' : es.size ≤ i := by rw [hsz]; exact hge
  simp only [show ¬ ((i : Int) < 0) from by omega, if_false, Int.toNat_natCast, Array.getElem?_eq_none hge']
  refine wpAny_bind ?_
  first | refine wpAny_bind (wpAny_typeNameOfWhole_keyiter hit.typeIs (wpAny_pure ?_)) | refine wpAny_bind (wpAny_typeNameOf_keyiter hit.typeIs (wpAny_pure ?_))
  show wpAny _ _ (setField (.ref it) 0 .none >>= _) _ _ s
  refine wpAny_bind (wpAny_setField ho hd (by simp) ?_)
  show wpAny _ _ (newExc (.type "StopIteration") [] >>= _) _ _ _
  refine wpAny_bind ?_
  simp only [newExc, newTuple]
  refine wpAny_bind (wpAny_newObj_type ?_ (by size_fits))
  refine wpAny_bind (m := firstArgMember _ _) (wpAny_of_eq (a := Value.none) (by first | rfl | (simp only [firstArgMember]; rfl)) ?_)
  refine wpAny_newObj_type ?_ (by size_fits)
  simp only [raiseNew]
  refine wpAny_bind (wpAny_handled ?_)
  rw [show A.in1.handled = none from hh]
  refine wpAny_bind (wpAny_pure (wpAny_throw ?_))
  refine wpAny_bind (wpAny_isInstance (T := "StopIteration") (b := true) ⟨_, Heap.get?_push_size _ rfl, rfl⟩ isSubtype_stop ?_)
  exact wpAny_pure (hQ _ (((Heap.SameBut.update ..).extBut.push _).push _))
end

/-! ### a locked dict -/
theorem kv_get {κ : Type} {kvs : List (κ × V)} {vs : List (κ × Value)} (h : KV kvs vs) : ∀ {i : Nat} {k : κ} {v : V}, kvs[i]? = some (k, v) → ∃ u, vs[i]? = some (k, u) ∧ RelV v u := by
  unfold KV at h
  induction h with
  | nil => intro i k v e; simp at e
  | @cons a b l₁ l₂ r t ih =>
    intro i k v e
    cases i with
    | zero =>
      simp only [List.getElem?_cons_zero, Option.some.injEq] at e
      subst e
      refine ⟨b.2, ?_, r.2⟩
      simp only [List.getElem?_cons_zero]
      exact congrArg some (Prod.ext r.1.symm rfl)
    | succ j =>
      simp only [List.getElem?_cons_succ] at e ⊢
      exact ih e
theorem paired_get {α β : Type} {G : α → β → Prop} {l₁ : List α} {l₂ : List β} (h : Paired G l₁ l₂) : ∀ {i : Nat} {a : α}, l₁[i]? = some a → ∃ b, l₂[i]? = some b ∧ G a b := by
  induction h with
  | nil => intro i a e; simp at e
  | @cons a b l₁ l₂ r t ih =>
    intro i a' e
    cases i with
    | zero =>
      simp only [List.getElem?_cons_zero, Option.some.injEq] at e
      subst e
      exact ⟨b, rfl, r⟩
    | succ j =>
      simp only [List.getElem?_cons_succ] at e ⊢
      exact ih e
theorem relV_key {k : Key} {u : Value} (h : keyIs k u = true) : RelV (kV k) u := by
  rcases keyIs_shape h with ⟨i, t, rfl, rfl⟩ | ⟨x, t, rfl, rfl⟩
  · exact ⟨t, rfl⟩
  · exact ⟨t, rfl⟩
section
variable {X : Cx} {pins : List (Addr × Obj)} {σ : St} {H : Hp} {s : Shared} {d : Addr} {o : Obj}
theorem Inv.frzK {kvs : List (Key × V)} (I : Inv X pins σ H s) (h : H d = some (.frz o (.dK kvs))) :
    (d == sysModules) = false ∧ s.heap.get? d = some o ∧ o.ExactDict ∧ ∃ (es : Array DictEntry) (ep : Nat) (vs : List (Key × Value)), o.data = .dict es ep ∧ es.size = kvs.length ∧ KV kvs vs ∧ s.heap.DictAt (mixKind X.prog X.w) d vs ep := by
  obtain ⟨hd, z, hs, vs, kv, o', es, ep, ho, hx, hdt, r⟩ := I.hok d _ h
  rw [hd] at ho
  cases ho
  refine ⟨hs, hd, hx, es, ep, vs, hdt, ?_, kv, o, es, hd, hx, hdt, r⟩
  have l1 := r.2.1.length
  have l2 : kvs.length = vs.length := Paired.length kv
  rw [Array.length_toList] at l1
  omega
/-- the same for tuple keys -/
theorem Inv.frzT {kvs : List (List Key × V)} (I : Inv X pins σ H s) (h : H d = some (.frz o (.dT kvs))) :
    (d == sysModules) = false ∧ s.heap.get? d = some o ∧ o.ExactDict ∧ ∃ (es : Array DictEntry) (ep : Nat), o.data = .dict es ep ∧ es.size = kvs.length ∧
      ∀ (i : Nat) (k : List Key) (v : V), kvs[i]? = some (k, v) → ∃ (en : DictEntry) (q : Addr), es[i]? = some en ∧ en.key = .ref q ∧ H q = some (.tup (k.map kV)) := by
  obtain ⟨hd, z, hs, xs, pr, o', es, ep, ho, hx, hdt, he, _⟩ := I.hok d _ h
  rw [hd] at ho
  cases ho
  refine ⟨hs, hd, hx, es, ep, hdt, ?_, fun i k v e => ?_⟩
  · have l1 : es.size = xs.length := size_of_entries he
    have l2 : kvs.length = xs.length := Paired.length pr
    omega
  · obtain ⟨b, hb, e1, e2, _⟩ := paired_get pr e
    have q := entry_at he i
    rw [hb] at q
    exact ⟨_, b.2.1, q, rfl, e2⟩
end

/-- the keys of the locked dict at d, in their order -/
def Itk (d : Addr) (o : Obj) (kvs : List (Key × V)) : It :=
  ⟨fun i H => H d = some (.frz o (.dK kvs)) ∧ i < kvs.length, fun i H x H' => H' = H ∧ ∃ k v, kvs[i]? = some (k, v) ∧ x = kV k, fun i H => H d = some (.frz o (.dK kvs)) ∧ kvs.length ≤ i⟩
/-- .. of tuple keys: the key's own tuple -/
def Itkt (d : Addr) (o : Obj) (kvs : List (List Key × V)) : It :=
  ⟨fun i H => H d = some (.frz o (.dT kvs)) ∧ i < kvs.length, fun i H x H' => H' = H ∧ ∃ (k : List Key) (v : V) (q : Addr), kvs[i]? = some (k, v) ∧ x = .ref q ∧ H q = some (.tup (k.map kV)), fun i H => H d = some (.frz o (.dT kvs)) ∧ kvs.length ≤ i⟩
theorem dict_ep {o : Obj} {es es' : Array DictEntry} {ep ep' : Nat} (h : o.data = .dict es ep) (h' : o.data = .dict es' ep') : es' = es ∧ ep' = ep := by
  rw [h] at h'
  cases h'
  exact ⟨rfl, rfl⟩
section
variable {P : Program} {w : World} {K : PySem.W.Frag} {tg : Expr} {d : Addr} {o : Obj} {es : Array DictEntry} {ep : Nat}
theorem turn_keys {kvs : List (Key × V)} (it : Addr) (hod : o.data = .dict es ep) : Turn P w K tg (Itk d o kvs) [it] it (fun i h => h.IsKeyIter it d i kvs.length ep) where
  mem := by simp
  obj := fun i h st b hb => by
    have e : b = it := by simpa using hb
    subst e
    obtain ⟨oi, e, c, dd⟩ := st
    exact ⟨oi, e, fun v z => by rw [dd] at z; cases z⟩
  keep := fun i h h' st k => st.at fun oi e => k it (by simp) oi e
  item := by
    intro X hP hw hK hc i pins s σ H E I hf st hg
    subst hP hw hK
    obtain ⟨hd, hi⟩ := hg
    obtain ⟨f0, f1, f2, f3, f4, f5⟩ := hf it (by simp)
    obtain ⟨hs, hgd, hx, es', ep', vs, hdt, hsz, kv, hm⟩ := I.frzK hd
    obtain ⟨rfl, rfl⟩ := dict_ep hod hdt
    obtain ⟨⟨k, v⟩, hkv⟩ : ∃ p, kvs[i]? = some p := ⟨kvs[i], List.getElem?_eq_getElem hi⟩
    obtain ⟨u, hu, ru⟩ := kv_get kv hkv
    have hl : kvs.length = vs.length := Paired.length kv
    rw [hl] at st
    refine wpAny_pyNext_dict_item st hm hu fun key h' hkey st' sb => ?_
    have I1 : Inv X pins σ H { s with heap := h' } := I.turned (t' := s.toks) (fun b ob hb e => (sb.2 b hb).trans e) f0 f1 f3 f4 f5
    obtain ⟨oi, e, c, dd⟩ := id st'
    refine ⟨key, rfl, go_of (s := { s with heap := h' }) e c dd (by decide) ⟨kV k, H, I1, relV_key (show keyIs k key = true from hkey), ⟨rfl, k, v, hkv, rfl⟩, ?_, fun b hb => (hf b hb).1⟩⟩
    show h'.IsKeyIter it d (i + 1) kvs.length _
    rw [hl]
    exact st'
  done := by
    intro X hP hw hK hc i pins s σ H E I hf st hg
    subst hP hw hK
    obtain ⟨hd, hi⟩ := hg
    obtain ⟨f0, f1, f2, f3, f4, f5⟩ := hf it (by simp)
    obtain ⟨hs, hgd, hx, es', ep', vs, hdt, hsz, kv, hm⟩ := I.frzK hd
    obtain ⟨rfl, rfl⟩ := dict_ep hod hdt
    exact next_key_end (I.ok.hd hc) st hgd hdt hsz hi fun h' eb => ⟨rfl, I.turned (t' := s.toks) (fun b ob hb e => eb b ob hb e) f0 f1 f3 f4 f5⟩
  self := fun A i s Q E st h => wpAny_pyIter_keyiter st h
theorem turn_keysT {kvs : List (List Key × V)} (it : Addr) (hod : o.data = .dict es ep) : Turn P w K tg (Itkt d o kvs) [it] it (fun i h => h.IsKeyIter it d i kvs.length ep) where
  mem := by simp
  obj := fun i h st b hb => by
    have e : b = it := by simpa using hb
    subst e
    obtain ⟨oi, e, c, dd⟩ := st
    exact ⟨oi, e, fun v z => by rw [dd] at z; cases z⟩
  keep := fun i h h' st k => st.at fun oi e => k it (by simp) oi e
  item := by
    intro X hP hw hK hc i pins s σ H E I hf st hg
    subst hP hw hK
    obtain ⟨hd, hi⟩ := hg
    obtain ⟨f0, f1, f2, f3, f4, f5⟩ := hf it (by simp)
    obtain ⟨hs, hgd, hx, es', ep', hdt, hsz, ent⟩ := I.frzT hd
    obtain ⟨rfl, rfl⟩ := dict_ep hod hdt
    obtain ⟨⟨k, v⟩, hkv⟩ : ∃ p, kvs[i]? = some p := ⟨kvs[i], List.getElem?_eq_getElem hi⟩
    obtain ⟨en, q, hen, hkey, hq⟩ := ent i k v hkv
    refine next_key_item st hgd hdt hsz hen fun h' st' sb => ?_
    have I1 : Inv X pins σ H { s with heap := h' } := I.turned (t' := s.toks) (fun b ob hb e => (sb.2 b hb).trans e) f0 f1 f3 f4 f5
    obtain ⟨oi, e, c, dd⟩ := id st'
    exact ⟨en.key, rfl, go_of (s := { s with heap := h' }) e c dd (by decide) ⟨.ref q, H, I1, hkey, ⟨rfl, k, v, q, hkv, rfl, hq⟩, st', fun b hb => (hf b hb).1⟩⟩
  done := by
    intro X hP hw hK hc i pins s σ H E I hf st hg
    subst hP hw hK
    obtain ⟨hd, hi⟩ := hg
    obtain ⟨f0, f1, f2, f3, f4, f5⟩ := hf it (by simp)
    obtain ⟨hs, hgd, hx, es', ep', hdt, hsz, ent⟩ := I.frzT hd
    obtain ⟨rfl, rfl⟩ := dict_ep hod hdt
    exact next_key_end (I.ok.hd hc) st hgd hdt hsz hi fun h' eb => ⟨rfl, I.turned (t' := s.toks) (fun b ob hb e => eb b ob hb e) f0 f1 f3 f4 f5⟩
  self := fun A i s Q E st h => by
    refine wpAny_pyIter_slot st.typeIs F.slot_dict_keyiterator_iter (wpAny_call_entry F.slot_dict_keyiterator_iter st.typeIs F.entry_dict_keyiterator_iter ?_ (F.args_dict_keyiterator_iter_1 _))
    show wpAny _ _ (ret (.ref it)) _ _ s
    exact wpAny_pure ⟨_, rfl, "dict_keyiterator", _, st.typeIs, F.slot_dict_keyiterator_next.lookup, h⟩
end

/-! ### for k in d, d.keys(), d.values(), d.items() -/
/-- the dict is locked (tLock, or by the caller) -/
def iKeys (td : TE) : TI := fun σ H R => td σ H fun x H1 => ∃ d o, x = .ref d ∧ ((∃ kvs, H1 d = some (.frz o (.dK kvs)) ∧ R (Itk d o kvs) H1) ∨ ∃ kvs, H1 d = some (.frz o (.dT kvs)) ∧ R (Itkt d o kvs) H1)
section
variable {X : Cx} {tg e : Expr} {td : TE} {apos cpos : Pos}
theorem pi_keys (he : PE X e td) : PI X tg e (iKeys td) := by
  intro pins s σ H R I h
  refine thn (he pins s σ H _ I h) fun u s1 ⟨x, H1, I1, rx, d, o, ex, q⟩ => ?_
  subst ex
  obtain rfl : u = Value.ref d := rx
  rcases q with ⟨kvs, hd, q⟩ | ⟨kvs, hd, q⟩
  · obtain ⟨hs, hgd, hx, es, ep, vs, hdt, hsz, kv, hm⟩ := I1.frzK hd
    refine iter_keys hs hgd hx hdt (pi_one (tk := s1.toks) I1 _ (turn_keys _ hdt) ⟨_, Heap.get?_push_size _ rfl, rfl, ?_⟩ q)
    rw [hsz] <;> rfl
  · obtain ⟨hs, hgd, hx, es, ep, hdt, hsz, ent⟩ := I1.frzT hd
    refine iter_keys hs hgd hx hdt (pi_one (tk := s1.toks) I1 _ (turn_keysT _ hdt) ⟨_, Heap.get?_push_size _ rfl, rfl, ?_⟩ q)
    rw [hsz] <;> rfl
end

/-! ### enumerate(list) -/
/-! ### zip(list, list) -/
end L2

section 
namespace Bits
open PySem PyProof.Rows

end Bits
end 

section 
namespace TL
open PySem PySem.Builtin PySem.Builtin.Str PySem.StrLaws

/-! ### the list functions -/

/-! ### the model's split and partition are these -/

/-! ### computing spl and par -/

/-! ### digits -/

/-! ### words: x.split() -/
end TL
end 

namespace L2
open PySem PySem.Spec PyProof.Rows

section
variable {X : Cx} {pins : List (Addr × Obj)} {σ : St} {H : Hp} {s : Shared} {Q : VK}
end

section
variable {X : Cx}

/-! ### of a text alone -/

/-! ### of a text and a text -/

end

section
variable {X : Cx} {o e : Expr} {to te : TE}

end
end L2

namespace L2
open PySem PySem.Spec PyProof.Rows

section
variable {X : Cx}
end

/-! ### slices of a text -/

end L2

namespace Att
open PySem PySem.W PySem.Calls PyProof.Rows

/-! ### the script -/

/-! ### the attachment: holds_open's last premise (the goal 'hc' behind k_head) from a wpAny of the law's body -/

/-! ### rules over ANY heap (no ledger) from facts about the written part K: the library's own take a ledger (News) for what they write -/
section
variable {prog : Program} {w : World} {A : Around} {E : Value → Shared → Prop} {s : Shared} {K : Frag}

/-! the whole heap as the ledger: makes every rule that writes through a ledger a rule over any heap -/

end
end Att

namespace L2
open PySem PySem.Spec PyProof.Rows

end L2

namespace L2
open PySem PySem.Spec PyProof.Rows

end L2

/- THE LAST THEOREM (shape; LID, My.* are yours):
   My.Adr: a structure of the addresses that your layer names (classes, functions); My.Txt K t: a structure (Prop) of the equations over K;
   My.txt_mk : {K} {implicit addresses ..} (e1 : nsIn K mainGlobals "law" = some (some (.ref f))) (e2 : K.lookup f = some ⟨oc, od, .func (fnOf "law" "law" params body scope dV kV doc pm an cdv ct), sl⟩) (e3 : codeIn K cdv "law" = true) .. : ∃ t, My.Txt K t

set_option maxRecDepth 100000 in
set_option maxHeartbeats 0 in
theorem PySem.Challenge.cw_LID_holds : PySem.Challenge.rw_LID.Holds := by
  w_on; o_law; k_head; (case hw => w_witness2)
  k_fill
  refine L2.walk_of (l := PySem.Challenge.rw_LID) (n := 63) (k := 40) (x := "script") (CX := fun w => ..) (sp := fun _ => My.sp_law) rfl (by decide) rfl ⟨rfl, by decide, by decide⟩ (fun w h Y => PySem.W.kIn_of Y) ?F ?S ?C
  case F =>
    intro w mg fa h KX G hmg
    have T : ∃ t, My.Txt (L2.KOf KX) t := by
      dsimp only [L2.KOf]                          -- K must stand as «<heap const> w.params» for k_is
      refine' My.txt_mk ?e1 ?e2 ?e3 ..
      (case e1 => PySem.W.k_is)                    -- in the order: a name -> its address -> its object -> its parts
      (case e2 => PySem.W.k_is)
      ..
    obtain ⟨t, T⟩ := T
    have e0 := hmg.symm.trans (PySem.W.mg_of KX G T.law)
    cases e0                                       -- fa is the law's own address
    exact ⟨_, fun s u => .of_eq rfl, fun base kb nb => My.law_fn T kb nb⟩     -- if «.of_eq rfl» comes too early: refine' ⟨_, ?b, fun base kb nb => My.law_fn T kb nb⟩; exact fun s u => .of_eq rfl
  case S => exact fun w H a ns hl hO hS => ..
  case C => exact ..
(the tactic k_is has no namespace: write k_is) -/

/-! SHORT WORDS over the layer: a def of the text, its body, what a loop and a test want. -/
namespace L2
open PySem PySem.Spec PyProof.Rows

/-! ### the text by places -/
/-- the j-th statement of a class's body -/
def inClass (s : Stmt) (j : Nat) : Stmt := match s with
  | .ClassDef _ _ _ body _ _ _ _ _ _ _ => body.getD j (.Pass ⟨0, 0, 0, 0⟩)
  | _ => .Pass ⟨0, 0, 0, 0⟩
def defArgs (s : Stmt) : Arguments := match s with
  | .FunctionDef _ a _ _ _ _ _ _ _ _ => a
  | _ => { posonlyargs := [], args := [], vararg := none, kwonlyargs := [], kw_defaults := [], kwarg := none, defaults := [] }
def defBody (s : Stmt) : List Stmt := match s with
  | .FunctionDef _ _ b _ _ _ _ _ _ _ => b
  | _ => []
def defScope (s : Stmt) : Scope := match s with
  | .FunctionDef _ _ _ _ _ _ sc _ _ _ => sc
  | _ => { kind := .function, names := [], isGenerator := false, isCoroutine := false }

/-! ### no exception leaves a def -/
abbrev CX0 : CXT := fun _ _ _ _ _ _ => False
abbrev E0 : XK := fun _ _ _ => False
theorem pass0 {X : Cx} : Passes CX0 X E0 := fun _ _ _ _ _ _ _ h => h.elim

/-! ### a def (or method) of the text as it stands behind the top -/
structure Fun (K : PySem.W.Frag) (x qual : Str) (st : Stmt) (f : Addr) (fd : FuncData) : Prop where
  ex : ∃ (oc : Value) (od : Option Addr) (kV doc pm : Value) (an : Option Addr) (cdv ct : Value) (osl : Array (Option Value)),
    fd = PySem.W.fnOf x qual (defArgs st) (defBody st) (defScope st) .none kV doc pm an cdv ct ∧ K.lookup f = some ⟨oc, od, .func fd, osl⟩ ∧ PySem.W.codeIn K cdv qual = true
  kp : PySem.W.keepIn K (.ref f) = true
section
variable {P : Program} {w : World} {K : PySem.W.Frag} {mg : Str → Option Value} {base : Heap}
/-- THE RULE for a def: its body as a term of rules, and the reading of that term -/
theorem Fun.ok {x qual : Str} {st : Stmt} {f : Addr} {fd : FuncData} {N ps : List Str} {k : Nat} {sp : Sp} (F : Fun K x qual st f fd) (S : FnScope N ps (defScope st)) (len : ∀ vs H Q E, sp vs H Q E → vs.length = ps.length)
    (hbody : ∀ (cdv : Value) (A : Around) (outer : List Env) (s : Shared) (H : Hp) (vs : List V) (Q : VK) (E : XK), Room k (A.deeper (envOfC qual (defScope st) s.heap.objs.size f cdv)) → sp vs H Q E →
      ∃ t, PSs (cxOf CX0 P w K mg base N qual (defScope st) f cdv A outer s H E).nox (defBody st) t ∧ t { nx := fun _ H' => Q .non H', rt := Q } (start N vs) H) : FnOk P w K mg base CX0 (k + 1) f fd ps sp := by
  obtain ⟨oc, od, kV, doc, pm, an, cdv, ct, osl, rfl, lk, hcd⟩ := F.ex
  refine fn_of lk hcd S len fun A outer s H vs Q E hr hsp => ?_
  obtain ⟨t, h, q⟩ := hbody cdv A outer s H vs Q E hr hsp
  exact ⟨t, h.nox, q⟩
/-- how its arguments bind (no defaults): h is «fun _ _ _ _ _ _ us hl => match us, hl with | [_, _], _ => rfl», one _ a parameter -/
theorem Fun.binds {x qual : Str} {st : Stmt} {f : Addr} {fd : FuncData} {ps : List Str} (F : Fun K x qual st f fd)
    (h : ∀ (kV doc pm : Value) (an : Option Addr) (cdv ct : Value) (us : List Value), us.length = ps.length → bindArgs (PySem.W.fnOf x qual (defArgs st) (defBody st) (defScope st) .none kV doc pm an cdv ct) ⟨us, []⟩ = pure (ps.zip us)) : Binds K fd ps [] := by
  obtain ⟨oc, od, kV, doc, pm, an, cdv, ct, osl, rfl, lk, hcd⟩ := F.ex
  exact .all (h kV doc pm an cdv ct)
theorem fun_mk {x qual : Str} {st : Stmt} {f : Addr} {oc : Value} {od an : Option Addr} {osl : Array (Option Value)} {kV doc pm cdv ct : Value} (l : K.lookup f = some ⟨oc, od, .func (PySem.W.fnOf x qual (defArgs st) (defBody st) (defScope st) .none kV doc pm an cdv ct), osl⟩)
    (c : PySem.W.codeIn K cdv qual = true) (k : PySem.W.keepIn K (.ref f) = true) : Fun K x qual st f (PySem.W.fnOf x qual (defArgs st) (defBody st) (defScope st) .none kV doc pm an cdv ct) := ⟨⟨oc, od, kV, doc, pm, an, cdv, ct, osl, rfl, l, c⟩, k⟩
end

/-! ### expressions in short: the name that stands in the i-th slot -/
section
variable {X : Cx}
theorem pv (i : Nat) {x : Str} {pos : Pos} (hN : X.N[i]? = some x := by rfl) (hv : Vis X.env.scope x := by first | exact Or.inl rfl | exact Or.inr (Or.inl rfl) | exact Or.inr (Or.inr rfl)) (hd : (x == ("__debug__" : Str)) = false := by decide)
    (hcd : (x == ("__classdict__" : Str)) = false := by decide) : PE X (.Name x pos) (tVar i) := pe_var hN hv hd hcd
end

/-! ### tests -/
theorem iteF {A B : Prop} (h : B) : if false = true then A else B := by
  rw [if_neg Bool.false_ne_true]
  exact h
theorem iteT {A B : Prop} (h : A) : if true = true then A else B := by
  rw [if_pos rfl]
  exact h
theorem ite2 {c A B : Prop} [Decidable c] (h1 : c → A) (h2 : ¬ c → B) : if c then A else B := by
  by_cases h : c
  · rw [if_pos h]
    exact h1 h
  · rw [if_neg h]
    exact h2 h

/-! ### heaps -/
/-- all that was tracked is as it was -/
def Same (H H' : Hp) : Prop := ∀ b o, H b = some o → H' b = some o
theorem Same.refl (H : Hp) : Same H H := fun _ _ h => h
theorem Same.trans {H H1 H2 : Hp} (a : Same H H1) (b : Same H1 H2) : Same H H2 := fun c o h => b c o (a c o h)
theorem Same.free {H H' : Hp} (e : Same H H') {l : Addr} (h : H' l = Option.none) : H l = Option.none := by
  cases q : H l with
  | none => rfl
  | some o =>
    rw [e l o q] at h
    cases h
theorem Same.seq {K : PySem.W.Frag} {H H' : Hp} {a : Addr} {xs : List V} (e : Same H H') (h : SqL K H a xs) : SqL K H' a xs := by
  rcases h with (h | ⟨o, h⟩) | h
  · exact .inl (.inl (e _ _ h))
  · exact .inl (.inr ⟨o, e _ _ h⟩)
  · exact .inr h

/-! ### a dict's pairs: keys that differ -/
section
variable {κ : Type} [DecidableEq κ]
theorem valV_not {kvs : List (κ × V)} {k : κ} (h : valV kvs k = none) : ¬ k ∈ kvs.map (·.1) := by
  intro m
  obtain ⟨p, hp, e⟩ := List.mem_map.mp m
  have q : (kvs.any fun kv => decide (kv.1 = k)) = true := List.any_eq_true.mpr ⟨p, hp, decide_eq_true e⟩
  rw [valV_any, h] at q
  exact absurd q (by simp)
end
/-! ### lists -/
theorem nd_ix {α : Type} {l : List α} (hN : l.Nodup) {i j : Nat} {x : α} (a : l[i]? = some x) (b : l[j]? = some x) : i = j := by
  obtain ⟨h1, e1⟩ := List.getElem?_eq_some_iff.mp a
  obtain ⟨h2, e2⟩ := List.getElem?_eq_some_iff.mp b
  exact (List.getElem_inj hN).mp (e1.trans e2.symm)
/-- a new instance and its __init__ leave all that was tracked as it was -/
theorem Same.made {H H1 : Hp} {x dx C : Addr} (nx : H x = Option.none) (nd : H dx = Option.none) (k : ∀ b o, (upd (upd H dx (.own x)) x (.ins C dx [])) b = some o → b ≠ x → H1 b = some o) : Same H H1 := fun b o e =>
  k b o (by rw [upd_ne (ne_of_none e nx), upd_ne (ne_of_none e nd)]; exact e) (ne_of_none e nx)
end L2

end
section
set_option Elab.async false
set_option linter.all false
set_option maxRecDepth 100000
set_option maxHeartbeats 2000000
namespace L2
open PySem PySem.Spec PyProof.Rows
open PySem.W (WData Codec OpenSpec Well WellAll ReadsW ReadsAllW)
/-! ### an answer as data -/
mutual
/-- x stands for the datum d, lists and tuples all the way -/
inductive Dw (K : PySem.W.Frag) (H : Hp) : V → WData → Prop
  | non : Dw K H .non .none
  | bl (b : Bool) : Dw K H (.bl b) (.bool b)
  | int (i : Int) : Dw K H (.int i) (.int i)
  | str (x : Str) : Dw K H (.str x) (.str x)
  | byt (b : Array UInt8) : Dw K H (.byt b) (.bytes b.toList)
  | lst {a : Addr} {xs : List V} {ds : List WData} : SqL K H a xs → DwAll K H xs ds → Dw K H (.ref a) (.list ds)
  | tup {a : Addr} {xs : List V} {ds : List WData} : SqT K H a xs → DwAll K H xs ds → Dw K H (.ref a) (.tuple ds)
inductive DwAll (K : PySem.W.Frag) (H : Hp) : List V → List WData → Prop
  | nil : DwAll K H [] []
  | cons {v : V} {vs : List V} {d : WData} {ds : List WData} : Dw K H v d → DwAll K H vs ds → DwAll K H (v :: vs) (d :: ds)
end
theorem dw_ints {K : PySem.W.Frag} {H : Hp} : ∀ ns : List Int, DwAll K H (ns.map V.int) (ns.map WData.int)
  | [] => .nil
  | n :: r => .cons (.int n) (dw_ints r)
theorem ints_dw {K : PySem.W.Frag} {H : Hp} : ∀ (ns : List Int) (xs : List V), DwAll K H xs (ns.map WData.int) → xs = ns.map V.int
  | [], xs, h => by
    cases h
    rfl
  | n :: r, xs, h => by
    cases h with
    | cons h1 h2 =>
      cases h1
      rw [ints_dw r _ h2] <;> rfl
section
variable {P : Program} {w : World} {K : PySem.W.Frag} {H : Hp} {h : Heap} {R : PySem.W.WRecords} {cl : Str → Option Addr}
theorem sqL_at {a : Addr} {xs : List V} (hok : HOk P w H h) (KX : K.In h) (q : SqL K H a xs) : ∃ (its : List Value) (o : Obj) (n : Nat), Vals xs its ∧ h.get? a = some o ∧ o.cls = .type "list" ∧ o.data = .seq its.toArray n := by
  rcases q with q | ⟨o, its, n, e, hc, _, hd, _, hv⟩
  · obtain ⟨_, its, n, hv, e⟩ := (show ObjOk P w H h a (.lst xs) from q.ok hok)
    exact ⟨its, _, n, hv, e, rfl, rfl⟩
  · exact ⟨its.toList, o, n, hv, KX _ _ e, hc, by simp [hd]⟩
theorem sqT_at {a : Addr} {xs : List V} (hok : HOk P w H h) (KX : K.In h) (q : SqT K H a xs) : ∃ (its : List Value) (o : Obj) (n : Nat), Vals xs its ∧ h.get? a = some o ∧ o.cls = .type "tuple" ∧ o.data = .seq its.toArray n := by
  rcases q with q | ⟨o, its, n, e, hc, hd, _, hv⟩
  · obtain ⟨_, its, hv, o, e, hc, n, hd⟩ := (show ObjOk P w H h a (.tup xs) from q.ok hok)
    exact ⟨its, o, n, hv, e, hc, hd⟩
  · exact ⟨its.toList, o, n, hv, KX _ _ e, hc, by simp [hd]⟩
mutual
theorem Dw.reads (hok : HOk P w H h) (KX : K.In h) : ∀ (d : WData) (v : V) (u : Value), Dw K H v d → RelV v u → ∃ as, ReadsW R cl h u d as
  | .none, _, _, x, r => by
    cases x
    cases r
    exact ⟨_, ReadsW.none⟩
  | .bool b, _, _, x, r => by
    cases x
    cases r
    exact ⟨_, ReadsW.bool b⟩
  | .int i, _, _, x, r => by
    cases x
    obtain ⟨t, rfl⟩ := r
    exact ⟨_, ReadsW.int i t⟩
  | .str s, _, _, x, r => by
    cases x
    obtain ⟨t, rfl⟩ := r
    exact ⟨_, ReadsW.str s t⟩
  | .bytes b, _, _, x, r => by
    cases x
    obtain ⟨t, rfl⟩ := r
    exact ⟨_, ReadsW.bytes _ t⟩
  | .list ds, _, _, x, r => by
    cases x with
    | lst hs ha =>
      cases r
      obtain ⟨its, o, n, rv, ho, hc, hd⟩ := sqL_at hok KX hs
      obtain ⟨as, hr⟩ := Dw.readsAll hok KX ds _ its ha rv
      exact ⟨_, ReadsW.list ho hc hd hr⟩
  | .tuple ds, _, _, x, r => by
    cases x with
    | tup hs ha =>
      cases r
      obtain ⟨its, o, n, rv, ho, hc, hd⟩ := sqT_at hok KX hs
      obtain ⟨as, hr⟩ := Dw.readsAll hok KX ds _ its ha rv
      exact ⟨_, ReadsW.tuple ho hc hd hr⟩
  | .float _, _, _, x, _ => by cases x
  | .dict _, _, _, x, _ => by cases x
  | .bytearray _, _, _, x, _ => by cases x
  | .set _, _, _, x, _ => by cases x
  | .frozenset _, _, _, x, _ => by cases x
  | .obj _ _, _, _, x, _ => by cases x
theorem Dw.readsAll (hok : HOk P w H h) (KX : K.In h) : ∀ (ds : List WData) (vs : List V) (us : List Value), DwAll K H vs ds → Vals vs us → ∃ as, ReadsAllW R cl h us ds as
  | [], _, _, x, r => by
    cases x
    cases r
    exact ⟨_, ReadsAllW.nil⟩
  | d :: ds, _, _, x, r => by
    cases x with
    | cons h1 h2 =>
      cases r with
      | cons r1 r2 =>
        obtain ⟨as, q1⟩ := Dw.reads hok KX d _ _ h1 r1
        obtain ⟨bs, q2⟩ := Dw.readsAll hok KX ds _ _ h2 r2
        exact ⟨_, ReadsAllW.cons q1 q2⟩
end
end
/-! ### the arguments -/
mutual
/-- data that a codec tells -/
def plW : WData → Bool
  | .none => true
  | .bool _ => true
  | .int _ => true
  | .str _ => true
  | .bytes _ => true
  | .list xs => plWs xs
  | .tuple xs => plWs xs
  | _ => false
def plWs : List WData → Bool
  | [] => true
  | x :: r => plW x && plWs r
end
theorem plWs_map {α : Type} {f : α → WData} (h : ∀ a, plW (f a) = true) : ∀ l : List α, plWs (l.map f) = true
  | [] => rfl
  | x :: r => by
    show (plW (f x) && plWs (r.map f)) = true
    rw [h x, plWs_map h r] <;> rfl
theorem pl_enc : ∀ (c : Codec) (a : c.denote), plW (c.enc a) = true
  | .unit, _ => rfl
  | .bool, _ => rfl
  | .int _ _, _ => rfl
  | .nat _ _, _ => rfl
  | .u8, _ => rfl
  | .bytes _ _, _ => rfl
  | .text _ _ _ _, _ => rfl
  | .list _ _ c, a => plWs_map (fun x => pl_enc c x) a
  | .pair c d, a => by
    show (plW (c.enc a.1) && (plW (d.enc a.2) && true)) = true
    rw [pl_enc c a.1, pl_enc d a.2] <;> rfl
  | .triple c d e, a => by
    show (plW (c.enc a.1) && (plW (d.enc a.2.1) && (plW (e.enc a.2.2) && true))) = true
    rw [pl_enc c a.1, pl_enc d a.2.1, pl_enc e a.2.2] <;> rfl
  | .option c, none => rfl
  | .option c, some x => pl_enc c x
theorem pl_encAll : ∀ (cs : List Codec) (a : Codec.denoteAll cs), plWs (Codec.encAll cs a) = true
  | [], _ => rfl
  | c :: cs, a => by
    show (plW (c.enc a.1) && plWs (Codec.encAll cs a.2)) = true
    rw [pl_enc c a.1, pl_encAll cs a.2] <;> rfl
theorem weight_mem : ∀ {xs : List WData} {d : WData}, d ∈ xs → d.weight ≤ WData.weightAll xs
  | [], d, h => absurd h (by simp)
  | x :: r, d, h => by
    show d.weight ≤ x.weight + 1 + WData.weightAll r
    rcases List.mem_cons.mp h with e | m
    · rw [e]
      omega
    · have z := weight_mem m
      omega
def toV : Value → V
  | .none => .non
  | .bool b => .bl b
  | .int i _ => .int i
  | .str x _ => .str x
  | .bytes b _ => .byt b
  | .ref a => .ref a
  | _ => .non
/-- a value of the arguments, its objects among A -/
def OkU (A : List Addr) : Value → Prop
  | .none => True
  | .bool _ => True
  | .int _ _ => True
  | .str _ _ => True
  | .bytes _ _ => True
  | .ref a => a ∈ A
  | _ => False
theorem OkU.mono {A B : List Addr} (h : ∀ a ∈ A, a ∈ B) : ∀ {u : Value}, OkU A u → OkU B u := fun {u} x => by
  cases u with
  | ref a => exact h a x
  | none => trivial
  | bool b => trivial
  | int i t => trivial
  | str s t => trivial
  | bytes b t => trivial
  | _ => exact False.elim x
theorem relV_toV {A : List Addr} {u : Value} (x : OkU A u) : RelV (toV u) u := by
  cases u with
  | ref a => rfl
  | none => rfl
  | bool b => rfl
  | int i t => exact ⟨t, rfl⟩
  | str s t => exact ⟨t, rfl⟩
  | bytes b t => exact ⟨t, rfl⟩
  | _ => exact False.elim x
theorem vals_toV {A : List Addr} : ∀ {vs : List Value}, (∀ u ∈ vs, OkU A u) → Vals (vs.map toV) vs
  | [], _ => .nil
  | u :: r, h => .cons (relV_toV (h u (List.mem_cons_self ..))) (vals_toV fun x hx => h x (List.mem_cons_of_mem _ hx))
/-- an object of the arguments -/
def ArgOb (h : Heap) (A : List Addr) (a : Addr) : Prop := ∃ vs : List Value, vs.length ≤ sizeLine ∧ (∀ u ∈ vs, OkU A u) ∧
  (h.get? a = some { cls := .type "list", data := .seq vs.toArray } ∨ h.get? a = some { cls := .type "tuple", data := .seq vs.toArray })
theorem ArgOb.mono {h : Heap} {A B : List Addr} {a : Addr} (k : ∀ a ∈ A, a ∈ B) (x : ArgOb h A a) : ArgOb h B a := by
  obtain ⟨vs, h1, h2, h3⟩ := x
  exact ⟨vs, h1, fun u hu => (h2 u hu).mono k, h3⟩
theorem wellAll_len {P : Params} {h : Heap} : ∀ {vs : List Value} {ds : List WData}, WellAll P h vs ds → vs.length = ds.length
  | _, _, .nil => rfl
  | _, _, .cons _ b => by
    show _ + 1 = _ + 1
    rw [wellAll_len b]
theorem well_list {P : Params} {h : Heap} {v : Value} {ds : List WData} (x : Well P h v (.list ds)) : ∃ (a : Addr) (vs : List Value), v = .ref a ∧ h.get? a = some { cls := .type "list", data := .seq vs.toArray } ∧ WellAll P h vs ds := by
  cases x with
  | list ho hall => exact ⟨_, _, rfl, ho, hall⟩
theorem well_tuple {P : Params} {h : Heap} {v : Value} {ds : List WData} (x : Well P h v (.tuple ds)) : ∃ (a : Addr) (vs : List Value), v = .ref a ∧ h.get? a = some { cls := .type "tuple", data := .seq vs.toArray } ∧ WellAll P h vs ds := by
  cases x with
  | tuple ho hall => exact ⟨_, _, rfl, ho, hall⟩
theorem well_cons {P : Params} {h : Heap} {us : List Value} {d : WData} {ds : List WData} (x : WellAll P h us (d :: ds)) : ∃ (v : Value) (vs : List Value), us = v :: vs ∧ Well P h v d ∧ WellAll P h vs ds := by
  cases x with
  | cons a b => exact ⟨_, _, rfl, a, b⟩
theorem line_of {n : Nat} (h : n ≤ 1048576) : n ≤ sizeLine := Nat.le_trans h (by decide)
section
variable {P : Params} {h : Heap}
mutual
theorem area_one : ∀ (d : WData) (v : Value), Well P h v d → plW d = true → d.weight ≤ 1048576 → ∃ A : List Addr, OkU A v ∧ ∀ a ∈ A, ArgOb h A a
  | .none, _, x, _, _ => by
    cases x
    exact ⟨[], trivial, fun a m => absurd m (by simp)⟩
  | .bool b, _, x, _, _ => by
    cases x
    exact ⟨[], trivial, fun a m => absurd m (by simp)⟩
  | .int i, _, x, _, _ => by
    cases x
    exact ⟨[], trivial, fun a m => absurd m (by simp)⟩
  | .str s, _, x, _, _ => by
    cases x
    exact ⟨[], trivial, fun a m => absurd m (by simp)⟩
  | .bytes b, _, x, _, _ => by
    cases x
    exact ⟨[], trivial, fun a m => absurd m (by simp)⟩
  | .list ds, _, x, p, z => by
    obtain ⟨a, vs, rfl, ho, hall⟩ := well_list x
    have z2 : WData.weightAll ds ≤ 1048576 := z
    obtain ⟨A, h1, h2⟩ := area_all ds _ hall p fun d hd => Nat.le_trans (weight_mem hd) z2
    have k : ∀ b ∈ A, b ∈ a :: A := fun b hb => List.mem_cons_of_mem _ hb
    refine ⟨a :: A, List.mem_cons_self .., fun b hb => ?_⟩
    rcases List.mem_cons.mp hb with e | m
    · rw [e]
      exact ⟨vs, line_of (by rw [wellAll_len hall]; exact Nat.le_trans (PySem.W.length_le_weightAllW ds) z2), fun u hu => (h1 u hu).mono k, .inl ho⟩
    · exact (h2 b m).mono k
  | .tuple ds, _, x, p, z => by
    obtain ⟨a, vs, rfl, ho, hall⟩ := well_tuple x
    have z2 : WData.weightAll ds ≤ 1048576 := z
    obtain ⟨A, h1, h2⟩ := area_all ds _ hall p fun d hd => Nat.le_trans (weight_mem hd) z2
    have k : ∀ b ∈ A, b ∈ a :: A := fun b hb => List.mem_cons_of_mem _ hb
    refine ⟨a :: A, List.mem_cons_self .., fun b hb => ?_⟩
    rcases List.mem_cons.mp hb with e | m
    · rw [e]
      exact ⟨vs, line_of (by rw [wellAll_len hall]; exact Nat.le_trans (PySem.W.length_le_weightAllW ds) z2), fun u hu => (h1 u hu).mono k, .inr ho⟩
    · exact (h2 b m).mono k
  | .float _, _, _, p, _ => Bool.noConfusion (show false = true from p)
  | .dict _, _, _, p, _ => Bool.noConfusion (show false = true from p)
  | .bytearray _, _, _, p, _ => Bool.noConfusion (show false = true from p)
  | .set _, _, _, p, _ => Bool.noConfusion (show false = true from p)
  | .frozenset _, _, _, p, _ => Bool.noConfusion (show false = true from p)
  | .obj _ _, _, _, p, _ => Bool.noConfusion (show false = true from p)
theorem area_all : ∀ (ds : List WData) (vs : List Value), WellAll P h vs ds → plWs ds = true → (∀ d ∈ ds, d.weight ≤ 1048576) → ∃ A : List Addr, (∀ u ∈ vs, OkU A u) ∧ ∀ a ∈ A, ArgOb h A a
  | [], _, x, _, _ => by
    cases x
    exact ⟨[], fun u m => absurd m (by simp), fun a m => absurd m (by simp)⟩
  | d :: ds, _, x, p, z => by
    obtain ⟨v, vs, rfl, x1, x2⟩ := well_cons x
    have q : plW d = true ∧ plWs ds = true := Bool.and_eq_true_iff.mp p
    obtain ⟨A, a1, a2⟩ := area_one d v x1 q.1 (z d (List.mem_cons_self ..))
    obtain ⟨B, b1, b2⟩ := area_all ds vs x2 q.2 fun e he => z e (List.mem_cons_of_mem _ he)
    have kA : ∀ b ∈ A, b ∈ A ++ B := fun b hb => List.mem_append.mpr (.inl hb)
    have kB : ∀ b ∈ B, b ∈ A ++ B := fun b hb => List.mem_append.mpr (.inr hb)
    refine ⟨A ++ B, fun u hu => ?_, fun b hb => ?_⟩
    · rcases List.mem_cons.mp hu with e | m
      · rw [e]
        exact a1.mono kA
      · exact (b1 u m).mono kB
    · rcases List.mem_append.mp hb with m | m
      · exact (a2 b m).mono kA
      · exact (b2 b m).mono kB
end
end
/-- what is tracked of an argument's object -/
def hoOf (o : Obj) : Option HO := match o.data with
  | .seq vs _ => if (o.cls == Value.type "list") = true then some (.frz o (.lst (vs.toList.map toV))) else some (.frz o (.tup (vs.toList.map toV)))
  | _ => none
def argH (K : PySem.W.Frag) (h : Heap) (A : List Addr) : Hp := fun b => if b ∈ A then (if (K.lookup b).isNone = true then (h.get? b).bind hoOf else none) else none
/-- nothing is tracked but what is known to the object -/
def OnlyF (H : Hp) : Prop := ∀ b, H b = none ∨ ∃ o u, H b = some (.frz o u)
theorem hoOf_lst (vs : List Value) : hoOf { cls := .type "list", data := .seq vs.toArray } = some (.frz { cls := .type "list", data := .seq vs.toArray } (.lst (vs.map toV))) := by
  show (if (Value.type "list" == Value.type "list") = true then some (HO.frz { cls := .type "list", data := .seq vs.toArray } (.lst (vs.toArray.toList.map toV))) else some (HO.frz { cls := .type "list", data := .seq vs.toArray } (.tup (vs.toArray.toList.map toV)))) = _
  rw [if_pos (beq_self_eq_true _)]
theorem hoOf_tup (vs : List Value) : hoOf { cls := .type "tuple", data := .seq vs.toArray } = some (.frz { cls := .type "tuple", data := .seq vs.toArray } (.tup (vs.map toV))) := by
  show (if (Value.type "tuple" == Value.type "list") = true then some (HO.frz { cls := .type "tuple", data := .seq vs.toArray } (.lst (vs.toArray.toList.map toV))) else some (HO.frz { cls := .type "tuple", data := .seq vs.toArray } (.tup (vs.toArray.toList.map toV)))) = _
  rw [if_neg (by decide)]
section
variable {P : Program} {w : World} {K : PySem.W.Frag} {h : Heap} {A : List Addr}
theorem argH_at {b : Addr} {o : Obj} (hb : b ∈ A) (hk : K.lookup b = none) (e : h.get? b = some o) : argH K h A b = hoOf o := by
  unfold argH
  rw [if_pos hb, hk, if_pos (show (none : Option Obj).isNone = true from rfl), e] <;> rfl
theorem of_argH {b : Addr} {u : HO} (q : argH K h A b = some u) : b ∈ A ∧ K.lookup b = none := by
  unfold argH at q
  by_cases hb : b ∈ A
  · rw [if_pos hb] at q
    cases hk : K.lookup b with
    | none => exact ⟨hb, rfl⟩
    | some o =>
      rw [hk, if_neg (by simp)] at q
      cases q
  · rw [if_neg hb] at q
    cases q
/-- what stands tracked -/
theorem argH_is (ar : ∀ a ∈ A, ArgOb h A a) {b : Addr} {u : HO} (q : argH K h A b = some u) : K.lookup b = none ∧ ∃ vs : List Value, vs.length ≤ sizeLine ∧ (∀ u ∈ vs, OkU A u) ∧
    ((h.get? b = some { cls := .type "list", data := .seq vs.toArray } ∧ u = .frz { cls := .type "list", data := .seq vs.toArray } (.lst (vs.map toV))) ∨
     (h.get? b = some { cls := .type "tuple", data := .seq vs.toArray } ∧ u = .frz { cls := .type "tuple", data := .seq vs.toArray } (.tup (vs.map toV)))) := by
  obtain ⟨hb, hk⟩ := of_argH q
  obtain ⟨vs, h1, h2, h3⟩ := ar b hb
  refine ⟨hk, vs, h1, h2, ?_⟩
  rcases h3 with e | e
  · rw [argH_at hb hk e, hoOf_lst] at q
    exact .inl ⟨e, (Option.some.inj q).symm⟩
  · rw [argH_at hb hk e, hoOf_tup] at q
    exact .inr ⟨e, (Option.some.inj q).symm⟩
theorem argH_only (ar : ∀ a ∈ A, ArgOb h A a) : OnlyF (argH K h A) := fun b => by
  cases q : argH K h A b with
  | none => exact .inl rfl
  | some u =>
    obtain ⟨_, vs, _, _, ⟨_, e⟩ | ⟨_, e⟩⟩ := argH_is ar q
    · exact .inr ⟨_, _, by rw [e]⟩
    · exact .inr ⟨_, _, by rw [e]⟩
theorem argH_ok (ar : ∀ a ∈ A, ArgOb h A a) : HOk P w (argH K h A) h := fun b u q => by
  obtain ⟨_, vs, h1, h2, ⟨e, rfl⟩ | ⟨e, rfl⟩⟩ := argH_is ar q
  · exact ⟨e, by rw [List.length_map]; exact h1, vs, _, vals_toV h2, e⟩
  · exact ⟨e, by rw [List.length_map]; exact h1, vs, vals_toV h2, _, e, rfl, _, rfl⟩
theorem seq_inj {c c' : Value} {vs us : List Value} (e : (some { cls := c, data := .seq vs.toArray } : Option Obj) = some { cls := c', data := .seq us.toArray }) : c = c' ∧ vs = us := by
  have e1 := Option.some.inj e
  have e2 : c = c' := congrArg Obj.cls e1
  have e3 : Data.seq vs.toArray = Data.seq us.toArray := congrArg Obj.data e1
  injection e3 with e4
  refine ⟨e2, ?_⟩
  have e5 := congrArg Array.toList e4
  simpa using e5
/-- a list argument -/
theorem argL (KX : K.In h) (ar : ∀ a ∈ A, ArgOb h A a) {a : Addr} {vs : List Value} (ha : a ∈ A) (e : h.get? a = some { cls := .type "list", data := .seq vs.toArray }) : (∀ u ∈ vs, OkU A u) ∧ SqL K (argH K h A) a (vs.map toV) := by
  obtain ⟨us, h1, h2, h3⟩ := ar a ha
  have hu : us = vs := by
    rcases h3 with q | q
    · rw [e] at q
      exact (seq_inj q).2.symm
    · rw [e] at q
      exact absurd (Value.type.inj (seq_inj q).1) (by decide)
  subst hu
  refine ⟨h2, ?_⟩
  cases hk : K.lookup a with
  | none => exact .inl (.inr ⟨_, by rw [argH_at ha hk e, hoOf_lst]⟩)
  | some o =>
    have e2 := KX a o hk
    rw [e] at e2
    obtain rfl := Option.some.inj e2
    exact .inr ⟨_, us.toArray, _, hk, rfl, rfl, rfl, by rw [List.size_toArray]; exact h1, by simpa using vals_toV h2⟩
theorem argT (KX : K.In h) (ar : ∀ a ∈ A, ArgOb h A a) {a : Addr} {vs : List Value} (ha : a ∈ A) (e : h.get? a = some { cls := .type "tuple", data := .seq vs.toArray }) : (∀ u ∈ vs, OkU A u) ∧ SqT K (argH K h A) a (vs.map toV) := by
  obtain ⟨us, h1, h2, h3⟩ := ar a ha
  have hu : us = vs := by
    rcases h3 with q | q
    · rw [e] at q
      exact absurd (Value.type.inj (seq_inj q).1) (by decide)
    · rw [e] at q
      exact (seq_inj q).2.symm
  subst hu
  refine ⟨h2, ?_⟩
  cases hk : K.lookup a with
  | none => exact .inl (.inr ⟨_, by rw [argH_at ha hk e, hoOf_tup]⟩)
  | some o =>
    have e2 := KX a o hk
    rw [e] at e2
    obtain rfl := Option.some.inj e2
    exact .inr ⟨_, us.toArray, _, hk, rfl, rfl, by rw [List.size_toArray]; exact h1, by simpa using vals_toV h2⟩
mutual
theorem dw_one {Pm : Params} (KX : K.In h) (ar : ∀ a ∈ A, ArgOb h A a) : ∀ (d : WData) (v : Value), Well Pm h v d → plW d = true → OkU A v → Dw K (argH K h A) (toV v) d
  | .none, _, x, _, _ => by
    cases x
    exact .non
  | .bool b, _, x, _, _ => by
    cases x
    exact .bl b
  | .int i, _, x, _, _ => by
    cases x
    exact .int i
  | .str s, _, x, _, _ => by
    cases x
    exact .str s
  | .bytes b, _, x, _, _ => by
    cases x
    have z := Dw.byt (K := K) (H := argH K h A) b.toArray
    exact z
  | .list ds, _, x, p, hu => by
    obtain ⟨a, vs, rfl, ho, hall⟩ := well_list x
    obtain ⟨h2, hs⟩ := argL KX ar hu ho
    exact .lst hs (dw_all KX ar ds _ hall p h2)
  | .tuple ds, _, x, p, hu => by
    obtain ⟨a, vs, rfl, ho, hall⟩ := well_tuple x
    obtain ⟨h2, hs⟩ := argT KX ar hu ho
    exact .tup hs (dw_all KX ar ds _ hall p h2)
  | .float _, _, _, p, _ => Bool.noConfusion (show false = true from p)
  | .dict _, _, _, p, _ => Bool.noConfusion (show false = true from p)
  | .bytearray _, _, _, p, _ => Bool.noConfusion (show false = true from p)
  | .set _, _, _, p, _ => Bool.noConfusion (show false = true from p)
  | .frozenset _, _, _, p, _ => Bool.noConfusion (show false = true from p)
  | .obj _ _, _, _, p, _ => Bool.noConfusion (show false = true from p)
theorem dw_all {Pm : Params} (KX : K.In h) (ar : ∀ a ∈ A, ArgOb h A a) : ∀ (ds : List WData) (vs : List Value), WellAll Pm h vs ds → plWs ds = true → (∀ u ∈ vs, OkU A u) → DwAll K (argH K h A) (vs.map toV) ds
  | [], _, x, _, _ => by
    cases x
    exact .nil
  | d :: ds, _, x, p, hu => by
    obtain ⟨v, vs, rfl, x1, x2⟩ := well_cons x
    have q : plW d = true ∧ plWs ds = true := Bool.and_eq_true_iff.mp p
    exact .cons (dw_one KX ar d v x1 q.1 (hu _ (List.mem_cons_self ..))) (dw_all KX ar ds vs x2 q.2 fun u m => hu u (List.mem_cons_of_mem _ m))
end
end
/-! ### the call -/
theorem spec_call {P : Program} {w : World} {K : PySem.W.Frag} {mg mb : Str → Option Value} {CX : CXT} {k : Nat} {fa : Addr} {fd : FuncData} {ps : List Str} {sp : Sp} {s₁ : Shared} {vals : List Value} {ds : List WData} {R : PySem.W.WRecords} {cl : Str → Option Addr} {d0 : WData}
    (KX : K.In s₁.heap) (hns : s₁.heap.Ns mainGlobals mg) (hb : s₁.heap.Ns builtinsNs mb) (hbb : ∀ x : Str, x ≠ "__name__" → mb x = bootBuiltins x) (hlim : s₁.heap.NoLimit) (hg : s₁.gens = #[])
    (hwl : WellAll w.params s₁.heap vals ds) (hpl : plWs ds = true) (hwt : ∀ d ∈ ds, d.weight ≤ 1048576) (hr : Room k callerA)
    (F : ∀ base : Heap, K.In base → base.Ns mainGlobals mg → FnOk P w K mg base CX k fa fd ps sp) (hbind : ∀ (s : Shared) (us : List Value), us.length = ps.length → BindsTo s fd ⟨us, []⟩ (ps.zip us)) (hlen : ds.length = ps.length)
    (hsp : ∀ (H : Hp) (xs : List V), OnlyF H → DwAll K H xs ds → sp xs H (fun v H' => Dw K H' v d0) fun _ _ _ => False)
    (hCX : ∀ H e s', CX [] H s₁ (fun _ _ _ => False) e s' → False) :
    codeAny (model P w) callerA (.call (.ref fa) ⟨vals, []⟩) (fun r s' => ∃ u as, r = .ok (.ret u) ∧ ReadsW R cl s'.heap u d0 as ∧ OldK s₁.heap s'.heap ∧ s'.os = s₁.os ∧ AllBare s'.gens) s₁ := by
  obtain ⟨A, ho, ar⟩ := area_all ds vals hwl hpl hwt
  have hO : OnlyF (argH K s₁.heap A) := argH_only ar
  have hok : HOk P w (argH K s₁.heap A) s₁.heap := argH_ok ar
  have hS := dw_all KX ar ds vals hwl hpl ho
  have hV := vals_toV ho
  have hK : ∀ b u, argH K s₁.heap A b = some u → K.lookup b = none := fun b u q => (argH_is ar q).1
  have noA : ∀ {b : Addr} {o : Obj} {es : Array DictEntry} {ep : Nat}, s₁.heap.get? b = some o → o.data = .dict es ep → argH K s₁.heap A b = none := fun {b o es ep} e d => by
    cases q : argH K s₁.heap A b with
    | none => rfl
    | some u =>
      obtain ⟨_, vs, _, _, ⟨e2, _⟩ | ⟨e2, _⟩⟩ := argH_is ar q
      · rw [e2] at e
        cases e
        have d' : Data.seq vs.toArray _ = Data.dict es ep := d
        cases d'
      · rw [e2] at e
        cases e
        have d' : Data.seq vs.toArray _ = Data.dict es ep := d
        cases d'
  generalize argH K s₁.heap A = H at hO hok hS hK noA
  have base_of : ∀ {b : Addr} {o : Obj}, s₁.heap.get? b = some o → H b = none → (hidT s₁.heap H).get? b = some o := fun e n => hidT_get e n
  have nsK : ∀ {b : Addr} {m : Str → Option Value}, s₁.heap.Ns b m → (hidT s₁.heap H).Ns b m := fun {b m} ⟨o, es, ep, e, d, r⟩ => ⟨o, es, ep, base_of e (noA e d), d, r⟩
  have nK : ∀ b o, K.lookup b = some o → H b = none := fun b o e => by
    cases q : H b with
    | none => rfl
    | some u =>
      rw [hK b u q] at e
      cases e
  have hKb : K.In (hidT s₁.heap H) := fun b o e => base_of (KX b o e) (nK b o e)
  have hM : Mod K mg (hidT s₁.heap H) := ⟨hKb, nsK hns, ⟨mb, nsK hb, hbb⟩, let ⟨mc, h1, h2⟩ := hlim; ⟨mc, nsK h1, h2⟩⟩
  have e0 : Env0 P w K mg (hidT s₁.heap H) callerA [] s₁ H := ⟨rfl, hM, fun b o e => of_hidT e, Nat.le_of_eq (hidT_size _ _), trivial, fun b hb => absurd (show b ∈ ([] : List Addr) from hb) (by simp), hok, .of_eq hg⟩
  have hl : vals.length = ps.length := by rw [wellAll_len hwl]; exact hlen
  refine codeAny_mono ((F _ hKb (nsK hns)).run callerA [] s₁ H ⟨vals, []⟩ vals (vals.map toV) _ _ hr e0 (hbind s₁ vals hl) hV (hsp H _ hO hS)) fun r s' x => ?_
  cases r with
  | error e => exact (hCX H e s' x).elim
  | ok fl =>
    cases fl with
    | next => exact False.elim x
    | brk => exact False.elim x
    | cont => exact False.elim x
    | ret u =>
      obtain ⟨v, H', os, bare, un, hok', r', q⟩ := x
      have kept : ∀ b o, s₁.heap.get? b = some o → s'.heap.get? b = some o := fun b o e => by
        cases q2 : H b with
        | none => exact un.keep b o e q2 (by intro z; exact absurd (show b ∈ ([] : List Addr) from z) (by simp)) (by simp)
        | some u2 =>
          rcases hO b with z | ⟨ob, u3, z⟩
          · rw [q2] at z
            cases z
          · have z2 := un.frzs b ob _ z
            obtain ⟨e1, _⟩ := hok b _ z
            obtain ⟨e2, _⟩ := hok' b _ z2
            rw [e] at e1
            cases e1
            exact e2
      have KX' : K.In s'.heap := fun b o e => kept b o (KX b o e)
      obtain ⟨as, hrd⟩ := Dw.reads (R := R) (cl := cl) hok' KX' d0 v u q r'
      exact ⟨u, as, rfl, hrd, OldK.of_keep kept, os, bare⟩
/-! ### the row -/
theorem layable_weight {ds : List WData} (h : WData.layableAll ds = true) : ∀ d ∈ ds, d.weight ≤ 1048576 := fun d hd =>
  (PySem.W.layableW_iff.mp (List.all_eq_true.mp h d hd)).2.2
theorem encAll_len : ∀ (cs : List Codec) (a : Codec.denoteAll cs), (Codec.encAll cs a).length = cs.length
  | [], _ => rfl
  | c :: cs, a => by
    show (Codec.encAll cs a.2).length + 1 = cs.length + 1
    rw [encAll_len cs a.2]
/-- the goal that k_headS leaves (case hc), from the promise of the row's def: whatever the arguments that the codecs let and the row asks for, the def gives what stands for enc (f ..) -/
theorem walk_spec {r : OpenSpec} {k : Nat} {q : Program} {loose : List Str} {XP : (Str → Option Value) → Heap → Prop} {YP : World → Heap → Prop} {d : DefRec} {K : Params → PySem.W.Frag} {CX : World → CXT} {ps : List Str} {sp : World → Sp}
    (hwell : r.wellSaid = true) (hdf : d.params.defaults = []) (hlen : r.args.length = ps.length) (hr : Room k callerA)
    (hY : ∀ (w : World) (h : Heap), YP w h → (K w.params).In h)
    (F : ∀ (w : World) (mg : Str → Option Value) (fa : Addr) (h : Heap), YP w h → (K w.params).In h → h.Ns mainGlobals mg → mg d.name = some (.ref fa) →
      ∃ fd : FuncData, (∀ (s : Shared) (us : List Value), us.length = ps.length → BindsTo s fd ⟨us, []⟩ (ps.zip us)) ∧
        ∀ base : Heap, (K w.params).In base → base.Ns mainGlobals mg → FnOk r.prog w (K w.params) mg base (CX w) k fa fd ps (sp w))
    (hsp : ∀ (w : World) (H : Hp) (xs : List V) (a : Codec.denoteAll r.args), OnlyF H → Codec.withinAll r.args a = true → Codec.app r.args r.asked a = true → DwAll (K w.params) H xs (Codec.encAll r.args a) →
      sp w xs H (fun v H' => Dw (K w.params) H' v (r.ret.enc (Codec.app r.args r.f a))) fun _ _ _ => False)
    (hCX : ∀ (w : World) (H : Hp) (s : Shared) (e : Value) (s' : Shared), CX w [] H s (fun _ _ _ => False) e s' → False) :
    PySem.W.WalkOS q loose XP YP r d [] (fun f vs => PySem.call f vs) := by
  intro w s_0 s₁ mg mb G Y fa o pm cd doc dV kV ho hd hcd hD hmg hg args vals as hpre hlay hrd hwl hlo
  obtain ⟨a, e1, e2⟩ := PySem.W.os_pre_some hpre
  obtain ⟨e3, hwi⟩ := Codec.encAll_of_decAll r.args args a e1
  subst e3
  have KX := hY w _ Y
  obtain ⟨fd, hb, hF⟩ := F w mg fa _ Y KX G.T.g hmg
  refine PySem.W.enter_call (codeAny_mono (spec_call (R := []) (cl := classAt s_0.heap) (d0 := r.ret.enc (Codec.app r.args r.f a)) KX G.T.g G.T.b G.T.builtins G.T.nolimit hg hwl (pl_encAll _ _) (layable_weight hlay) hr hF hb (by rw [encAll_len]; exact hlen)
    (fun H xs hO hS => hsp w H xs a hO hwi e2 hS) fun H e s' => hCX w H s₁ e s') fun r' s' hq => ?_)
  obtain ⟨u, as', rfl, h1, h2, h3, h4⟩ := hq
  exact ⟨.inl ⟨u, _, as', rfl, fun _ => rfl, h1, (OpenSpec.post_iff hwell hwi _ _).mpr rfl, fun z => Bool.noConfusion (show false = true from z)⟩, h2, h3, h4⟩
/-- the same where the promise hangs on the written part alone -/
theorem walk_specK {r : OpenSpec} {k : Nat} {q : Program} {loose : List Str} {XP : (Str → Option Value) → Heap → Prop} {YP : World → Heap → Prop} {d : DefRec} {K : Params → PySem.W.Frag} {CX : CXT} {ps : List Str} {sp : PySem.W.Frag → Sp}
    (hwell : r.wellSaid = true) (hdf : d.params.defaults = []) (hlen : r.args.length = ps.length) (hr : Room k callerA)
    (hY : ∀ (w : World) (h : Heap), YP w h → (K w.params).In h)
    (F : ∀ (w : World) (mg : Str → Option Value) (fa : Addr) (h : Heap), YP w h → (K w.params).In h → h.Ns mainGlobals mg → mg d.name = some (.ref fa) →
      ∃ fd : FuncData, (∀ (s : Shared) (us : List Value), us.length = ps.length → BindsTo s fd ⟨us, []⟩ (ps.zip us)) ∧
        ∀ base : Heap, (K w.params).In base → base.Ns mainGlobals mg → FnOk r.prog w (K w.params) mg base CX k fa fd ps (sp (K w.params)))
    (hsp : ∀ (K : PySem.W.Frag) (H : Hp) (xs : List V) (a : Codec.denoteAll r.args), OnlyF H → Codec.withinAll r.args a = true → Codec.app r.args r.asked a = true → DwAll K H xs (Codec.encAll r.args a) →
      sp K xs H (fun v H' => Dw K H' v (r.ret.enc (Codec.app r.args r.f a))) fun _ _ _ => False)
    (hCX : ∀ (H : Hp) (s : Shared) (e : Value) (s' : Shared), CX [] H s (fun _ _ _ => False) e s' → False) :
    PySem.W.WalkOS q loose XP YP r d [] (fun f vs => PySem.call f vs) :=
  walk_spec (K := K) (CX := fun _ => CX) (sp := fun w => sp (K w.params)) hwell hdf hlen hr hY F (fun w H xs a h1 h2 h3 h4 => hsp (K w.params) H xs a h1 h2 h3 h4) fun _ H s e s' => hCX H s e s'
end L2
-- rests on (row put in by the clerk, for the bench that shows a file only what it spells): KE.SpHead KE.OsShapes
end

set_option autoImplicit false
namespace Mf
open Km482

/-! ### once -/
section
variable {α : Type} [DecidableEq α]
def put (r : List α) (x : α) : List α := if r.contains x = true then r else r ++ [x]
theorem once_eq (l : List α) : once l = l.foldl put [] := rfl
theorem put_mem (r : List α) (x y : α) : y ∈ put r x ↔ y ∈ r ∨ y = x := by
  unfold put
  by_cases h : r.contains x = true
  · rw [if_pos h]
    have h' : x ∈ r := List.contains_iff_mem.mp h
    constructor
    · exact Or.inl
    · rintro (h1 | rfl)
      · exact h1
      · exact h'
  · rw [if_neg h]; simp
theorem put_nodup {r : List α} (h : r.Nodup) (x : α) : (put r x).Nodup := by
  unfold put
  by_cases h1 : r.contains x = true
  · rw [if_pos h1]; exact h
  · rw [if_neg h1]
    have h' : x ∉ r := fun z => h1 (List.contains_iff_mem.mpr z)
    rw [List.nodup_append]
    refine ⟨h, by simp, ?_⟩
    intro a ha b hb e
    simp at hb
    subst hb; subst e; exact h' ha
theorem fold_mem : ∀ (l r : List α) (y : α), y ∈ l.foldl put r ↔ y ∈ r ∨ y ∈ l
  | [], r, y => by simp
  | x :: l, r, y => by
    rw [List.foldl_cons, fold_mem l, put_mem, List.mem_cons]
    constructor
    · rintro ((h | h) | h)
      · exact .inl h
      · exact .inr (.inl h)
      · exact .inr (.inr h)
    · rintro (h | h | h)
      · exact .inl (.inl h)
      · exact .inl (.inr h)
      · exact .inr h
theorem fold_nodup : ∀ (l : List α) {r : List α}, r.Nodup → (l.foldl put r).Nodup
  | [], _, h => h
  | x :: l, _, h => fold_nodup l (put_nodup h x)
theorem once_mem (l : List α) (y : α) : y ∈ once l ↔ y ∈ l := by rw [once_eq, fold_mem]; simp
theorem once_nodup (l : List α) : (once l).Nodup := fold_nodup l List.nodup_nil
end

/-! ### hanging -/
/-- p hangs on q by so many clauses, one behind another, at most -/
def within (b : Book) : Nat → Nat × Nat → Nat × Nat → Prop
  | 0, p, q => p = q
  | k + 1, p, q => within b k p q ∨ ∃ r, within b k p r ∧ q ∈ b.unders r.1 r.2
def hangs (b : Book) (p q : Nat × Nat) : Prop := ∃ k, within b k p q
theorem hangs.refl (b : Book) (p : Nat × Nat) : hangs b p p := ⟨0, rfl⟩
theorem hangs.snoc {b : Book} {p q r : Nat × Nat} (h : hangs b p q) (e : r ∈ b.unders q.1 q.2) : hangs b p r := by
  obtain ⟨k, hk⟩ := h
  exact ⟨k + 1, .inr ⟨q, hk, e⟩⟩
theorem hangs.cons {b : Book} {p q r : Nat × Nat} (e : q ∈ b.unders p.1 p.2) (h : hangs b q r) : hangs b p r := by
  obtain ⟨k, hk⟩ := h
  induction k generalizing r with
  | zero =>
    have : q = r := hk
    subst this
    exact (hangs.refl b p).snoc e
  | succ k ih =>
    rcases hk with hk | ⟨s, hs, hr⟩
    · exact ih hk
    · exact (ih hs).snoc hr
theorem hangs.trans {b : Book} {p q r : Nat × Nat} (h : hangs b p q) (h2 : hangs b q r) : hangs b p r := by
  obtain ⟨k, hk⟩ := h2
  induction k generalizing r with
  | zero => have : q = r := hk; subst this; exact h
  | succ k ih =>
    rcases hk with hk | ⟨s, hs, hr⟩
    · exact ih hk
    · exact (ih hs).snoc hr
theorem within.mono {b : Book} {p q : Nat × Nat} {k : Nat} (h : within b k p q) : ∀ j, k ≤ j → within b j p q := by
  intro j hj
  induction j with
  | zero => have : k = 0 := by omega
            subst this; exact h
  | succ j ih =>
    by_cases e : k = j + 1
    · subst e; exact h
    · exact .inl (ih (by omega))

/-! ### the closure -/
/-- one round of the search -/
def more (b : Book) (l : List (Nat × Nat)) : List (Nat × Nat) := once (l ++ l.flatMap fun x => b.unders x.1 x.2)
theorem more_mem (b : Book) (l : List (Nat × Nat)) (q : Nat × Nat) : q ∈ more b l ↔ q ∈ l ∨ ∃ r, r ∈ l ∧ q ∈ b.unders r.1 r.2 := by
  unfold more
  rw [once_mem, List.mem_append, List.mem_flatMap]
theorem more_nodup (b : Book) (l : List (Nat × Nat)) : (more b l).Nodup := once_nodup _
def rounds (b : Book) : Nat → List (Nat × Nat) → List (Nat × Nat)
  | 0, l => l
  | k + 1, l => rounds b k (more b l)
theorem rounds_mem_of (b : Book) : ∀ (k : Nat) (l : List (Nat × Nat)) (q : Nat × Nat), q ∈ l → q ∈ rounds b k l
  | 0, _, _, h => h
  | k + 1, l, q, h => rounds_mem_of b k (more b l) q ((more_mem b l q).mpr (.inl h))
theorem rounds_succ (b : Book) : ∀ (k : Nat) (l : List (Nat × Nat)), rounds b (k + 1) l = more b (rounds b k l)
  | 0, _ => rfl
  | k + 1, l => by
    show rounds b (k + 1) (more b l) = more b (rounds b k (more b l))
    exact rounds_succ b k (more b l)
theorem rounds_within (b : Book) (p : Nat × Nat) : ∀ (k : Nat) (q : Nat × Nat), q ∈ rounds b k [p] ↔ within b k p q
  | 0, q => by
    show q ∈ [p] ↔ p = q
    rw [List.mem_singleton]
    exact ⟨Eq.symm, Eq.symm⟩
  | k + 1, q => by
    rw [rounds_succ, more_mem]
    show _ ↔ within b k p q ∨ ∃ r, within b k p r ∧ q ∈ b.unders r.1 r.2
    rw [rounds_within b p k q]
    constructor
    · rintro (h | ⟨r, hr, e⟩)
      · exact .inl h
      · exact .inr ⟨r, (rounds_within b p k r).mp hr, e⟩
    · rintro (h | ⟨r, hr, e⟩)
      · exact .inl h
      · exact .inr ⟨r, (rounds_within b p k r).mpr hr, e⟩
theorem rounds_nodup (b : Book) (p : Nat × Nat) : ∀ (k : Nat), (rounds b k [p]).Nodup
  | 0 => by show [p].Nodup; simp
  | k + 1 => by rw [rounds_succ]; exact more_nodup b _
/-- a list that a round leaves as long is closed -/
theorem closed_of {b : Book} {l : List (Nat × Nat)} (nd : l.Nodup) (h : (more b l).length = l.length) : ∀ q, q ∈ more b l → q ∈ l := by
  intro q hq
  -- else l with q in front is without two alike and longer than more
  apply Classical.byContradiction
  intro hn
  have nd2 : (q :: l).Nodup := List.nodup_cons.mpr ⟨hn, nd⟩
  have sub : (q :: l) ⊆ more b l := by
    intro x hx
    rcases List.mem_cons.mp hx with e | hx
    · rw [e]; exact hq
    · exact (more_mem b l x).mpr (.inl hx)
  have := List.Nodup.length_le_of_subset nd2 sub
  rw [List.length_cons] at this
  omega

/-! ### what is asked of a book -/
structure COk (n : Nat) (c : Clause) : Prop where
  kd : c.kind = 1 ∨ c.kind = 2 ∨ c.kind = 3
  i : c.i < n
  j : c.j < n
  k : c.k < n
  ij : c.i ≠ c.j
  k0 : c.kind ≠ 3 → c.k = 0
  k3 : c.kind = 3 → c.k ≠ c.i ∧ c.k ≠ c.j
structure Good (b : Book) : Prop where
  n2 : 2 ≤ b.n
  n6 : b.n ≤ 6
  m1 : 1 ≤ b.m
  m3 : b.m ≤ 3
  dl : b.duties.length = b.n * b.n * b.m
  d100 : ∀ x ∈ b.duties, x ≤ 100
  diag : ∀ i g, i < b.n → g < b.m → b.duty i i g = 0
  cl : b.clauses.length ≤ 16
  cok : ∀ c ∈ b.clauses, COk b.n c
  cnd : b.clauses.Nodup
  uok : ∀ p ∈ b.unions, p.1 < p.2 ∧ p.2 < b.n
  und : b.unions.Nodup

def inB (n : Nat) (p : Nat × Nat) : Prop := p.1 < n ∧ p.2 < n
/-- a duty between two states -/
def pairB (n : Nat) (p : Nat × Nat) : Prop := p.1 < n ∧ p.2 < n ∧ p.1 ≠ p.2
theorem pairB.inB {n : Nat} {p : Nat × Nat} (h : pairB n p) : inB n p := ⟨h.1, h.2.1⟩

theorem under_mem {b : Book} {i j : Nat} {c : Clause} {q : Nat × Nat} : q ∈ b.under i j c ↔ c.i = i ∧ c.j = j ∧
    ((c.kind = 1 ∧ q.1 = i ∧ q.2 < b.n ∧ q.2 ≠ i ∧ q.2 ≠ j ∧ b.union i q.2 = false) ∨ (c.kind = 2 ∧ q = (j, i)) ∨ (c.kind ≠ 1 ∧ c.kind ≠ 2 ∧ q = (c.k, j))) := by
  unfold Book.under
  by_cases h : c.i ≠ i ∨ c.j ≠ j
  · rw [if_pos h]
    constructor
    · intro z; simp at z
    · rintro ⟨h1, h2, _⟩
      rcases h with h | h
      · exact absurd h1 h
      · exact absurd h2 h
  · rw [if_neg h]
    have h1 : c.i = i := Classical.byContradiction fun z => h (.inl z)
    have h2 : c.j = j := Classical.byContradiction fun z => h (.inr z)
    by_cases k1 : c.kind = 1
    · rw [if_pos k1]
      simp only [List.mem_map, List.mem_filter, Book.states, List.mem_range, Bool.and_eq_true, bne_iff_ne, ne_eq, Bool.not_eq_true']
      constructor
      · rintro ⟨k, ⟨hk, ⟨h3, h4⟩, h5⟩, rfl⟩
        exact ⟨h1, h2, .inl ⟨k1, rfl, hk, h3, h4, h5⟩⟩
      · rintro ⟨_, _, ⟨_, e, hk, h3, h4, h5⟩ | ⟨z, _⟩ | ⟨z, _⟩⟩
        · exact ⟨q.2, ⟨hk, ⟨h3, h4⟩, h5⟩, by rw [← e]⟩
        · omega
        · exact absurd k1 z
    · rw [if_neg k1]
      by_cases k2 : c.kind = 2
      · rw [if_pos k2, List.mem_singleton]
        constructor
        · intro e; exact ⟨h1, h2, .inr (.inl ⟨k2, e⟩)⟩
        · rintro ⟨_, _, ⟨z, _⟩ | ⟨_, e⟩ | ⟨_, z, _⟩⟩
          · exact absurd z k1
          · exact e
          · exact absurd k2 z
      · rw [if_neg k2, List.mem_singleton]
        constructor
        · intro e; exact ⟨h1, h2, .inr (.inr ⟨k1, k2, e⟩)⟩
        · rintro ⟨_, _, ⟨z, _⟩ | ⟨z, _⟩ | ⟨_, _, e⟩⟩
          · exact absurd z k1
          · exact absurd z k2
          · exact e
theorem unders_mem {b : Book} {i j : Nat} {q : Nat × Nat} : q ∈ b.unders i j ↔ ∃ c ∈ b.clauses, q ∈ b.under i j c := by
  unfold Book.unders
  rw [List.mem_flatMap]
theorem unders_pairB {b : Book} (G : Good b) {i j : Nat} {q : Nat × Nat} (h : q ∈ b.unders i j) : pairB b.n q ∧ pairB b.n (i, j) := by
  obtain ⟨c, hc, hq⟩ := unders_mem.mp h
  have C := G.cok c hc
  obtain ⟨e1, e2, h3⟩ := under_mem.mp hq
  have hij : pairB b.n (i, j) := ⟨e1 ▸ C.i, e2 ▸ C.j, fun z => C.ij (e1.trans (z.trans e2.symm))⟩
  refine ⟨?_, hij⟩
  rcases h3 with ⟨_, h4, h5, h6, _⟩ | ⟨_, rfl⟩ | ⟨k1, k2, rfl⟩
  · exact ⟨by rw [h4]; exact hij.1, h5, by rw [h4]; exact fun z => h6 z.symm⟩
  · exact ⟨hij.2.1, hij.1, fun z => hij.2.2 z.symm⟩
  · have k3 : c.kind = 3 := by rcases C.kd with z | z | z <;> simp_all
    exact ⟨C.k, hij.2.1, fun z => (C.k3 k3).2 (z.trans e2.symm)⟩
theorem within_pairB {b : Book} (G : Good b) {p : Nat × Nat} (hp : pairB b.n p) : ∀ (k : Nat) (q : Nat × Nat), within b k p q → pairB b.n q
  | 0, q, h => by have : p = q := h; subst this; exact hp
  | k + 1, q, h => by
    rcases h with h | ⟨r, _, e⟩
    · exact within_pairB G hp k q h
    · exact (unders_pairB G e).1
theorem hangs_pairB {b : Book} (G : Good b) {p q : Nat × Nat} (hp : pairB b.n p) (h : hangs b p q) : pairB b.n q := by
  obtain ⟨k, hk⟩ := h
  exact within_pairB G hp k q hk

/-! ### the pairs -/
theorem pairs_mem {b : Book} {p : Nat × Nat} : p ∈ b.pairs ↔ pairB b.n p := by
  unfold Book.pairs Book.states pairB
  simp only [List.mem_flatMap, List.mem_range, List.mem_map, List.mem_filter, bne_iff_ne, ne_eq]
  constructor
  · rintro ⟨i, hi, j, ⟨hj, hn⟩, rfl⟩
    exact ⟨hi, hj, fun z => hn z.symm⟩
  · rintro ⟨h1, h2, h3⟩
    exact ⟨p.1, h1, p.2, ⟨h2, fun z => h3 z.symm⟩, rfl⟩
/-- all places -/
def places (n : Nat) : List (Nat × Nat) := (List.range n).flatMap fun i => (List.range n).map fun j => (i, j)
theorem flat_len {α β : Type} (f : α → List β) (k : Nat) : ∀ (l : List α), (∀ x ∈ l, (f x).length = k) → (l.flatMap f).length = l.length * k
  | [], _ => by simp
  | x :: l, h => by
    rw [List.flatMap_cons, List.length_append, h x (by simp), flat_len f k l (fun y hy => h y (by simp [hy])), List.length_cons, Nat.succ_mul]
    omega
theorem places_len (n : Nat) : (places n).length = n * n := by
  unfold places
  rw [flat_len _ n, List.length_range]
  intro x _
  rw [List.length_map, List.length_range]
theorem places_mem {n : Nat} {p : Nat × Nat} : p ∈ places n ↔ inB n p := by
  unfold places inB
  simp only [List.mem_flatMap, List.mem_range, List.mem_map]
  constructor
  · rintro ⟨i, hi, j, hj, rfl⟩; exact ⟨hi, hj⟩
  · rintro ⟨h1, h2⟩; exact ⟨p.1, h1, p.2, h2, rfl⟩
theorem len_le {n : Nat} {l : List (Nat × Nat)} (nd : l.Nodup) (h : ∀ q ∈ l, inB n q) : l.length ≤ n * n := by
  have := List.Nodup.length_le_of_subset nd (l₂ := places n) fun q hq => places_mem.mpr (h q hq)
  rwa [places_len] at this

/-! ### far -/
theorem farGo_spec {b : Book} (G : Good b) {p : Nat × Nat} (hp : pairB b.n p) : ∀ (f k : Nat), b.n * b.n ≤ k + f → k + 1 ≤ (rounds b k [p]).length → 
    ∀ q, q ∈ b.farGo f (rounds b k [p]) ↔ hangs b p q
  | 0, k, h1, h2 => by
    exfalso
    have := len_le (n := b.n) (rounds_nodup b p k) fun q hq => (within_pairB G hp k q ((rounds_within b p k q).mp hq)).inB
    omega
  | f + 1, k, h1, h2 => by
    intro q
    show q ∈ (if (more b (rounds b k [p])).length = (rounds b k [p]).length then rounds b k [p] else b.farGo f (more b (rounds b k [p]))) ↔ _
    by_cases e : (more b (rounds b k [p])).length = (rounds b k [p]).length
    · rw [if_pos e]
      constructor
      · intro hq; exact ⟨k, (rounds_within b p k q).mp hq⟩
      · rintro ⟨j, hj⟩
        have cl := closed_of (rounds_nodup b p k) e
        have all : ∀ (j : Nat) (q : Nat × Nat), within b j p q → q ∈ rounds b k [p] := by
          intro j
          induction j with
          | zero =>
            intro q hq
            have : p = q := hq
            subst this
            exact rounds_mem_of b k [p] p (by simp)
          | succ j ih =>
            intro q hq
            rcases hq with hq | ⟨r, hr, e2⟩
            · exact ih q hq
            · exact cl q ((more_mem b _ q).mpr (.inr ⟨r, ih r hr, e2⟩))
        exact all j q hj
    · rw [if_neg e, ← rounds_succ]
      refine farGo_spec G hp f (k + 1) (by omega) ?_ q
      have sub : (rounds b k [p]) ⊆ more b (rounds b k [p]) := fun x hx => (more_mem b _ x).mpr (.inl hx)
      have := List.Nodup.length_le_of_subset (rounds_nodup b p k) sub
      rw [rounds_succ]
      omega
theorem far_mem {b : Book} (G : Good b) {p : Nat × Nat} (hp : pairB b.n p) (q : Nat × Nat) : q ∈ b.far p ↔ hangs b p q :=
  farGo_spec G hp (b.n * b.n) 0 (by omega) (by show 1 ≤ [p].length; simp) q

/-! ### what is taken -/
theorem foldl_min_le : ∀ (l : List Nat) (a : Nat), l.foldl min a ≤ a ∧ ∀ x ∈ l, l.foldl min a ≤ x
  | [], a => ⟨Nat.le_refl _, fun x hx => by simp at hx⟩
  | y :: l, a => by
    rw [List.foldl_cons]
    obtain ⟨h1, h2⟩ := foldl_min_le l (min a y)
    refine ⟨Nat.le_trans h1 (Nat.min_le_left _ _), fun x hx => ?_⟩
    rcases List.mem_cons.mp hx with e | hx
    · rw [e]; exact Nat.le_trans h1 (Nat.min_le_right _ _)
    · exact h2 x hx
theorem foldl_min_mem : ∀ (l : List Nat) (a : Nat), l.foldl min a = a ∨ l.foldl min a ∈ l
  | [], a => .inl rfl
  | y :: l, a => by
    rw [List.foldl_cons]
    rcases foldl_min_mem l (min a y) with h | h
    · rw [h]
      by_cases e : a ≤ y
      · rw [Nat.min_eq_left e]; exact .inl rfl
      · rw [Nat.min_eq_right (by omega)]; exact .inr (by simp)
    · exact .inr (List.mem_cons_of_mem _ h)
theorem takes_le {b : Book} (G : Good b) {i j g : Nat} (hp : pairB b.n (i, j)) {q : Nat × Nat} (h : hangs b (i, j) q) : b.takes i j g ≤ b.duty q.1 q.2 g := by
  unfold Book.takes Book.least
  refine (foldl_min_le _ _).2 _ ?_
  exact List.mem_map.mpr ⟨q, (far_mem G hp q).mpr h, rfl⟩
theorem takes_at {b : Book} (G : Good b) {i j : Nat} (hp : pairB b.n (i, j)) (g : Nat) : ∃ q, hangs b (i, j) q ∧ b.takes i j g = b.duty q.1 q.2 g := by
  unfold Book.takes Book.least
  rcases foldl_min_mem ((b.far (i, j)).map fun q => b.duty q.1 q.2 g) (b.duty i j g) with h | h
  · exact ⟨(i, j), hangs.refl b _, h⟩
  · obtain ⟨q, hq, e⟩ := List.mem_map.mp h
    exact ⟨q, (far_mem G hp q).mp hq, e.symm⟩
/-- what is taken, by its three marks: v is nowhere more than laid down, keeps the clauses, and is somewhere laid down on which it hangs -/
theorem takes_unique {b : Book} (G : Good b) {g : Nat} {v : Nat → Nat → Nat} (h1 : ∀ i j, pairB b.n (i, j) → v i j ≤ b.duty i j g)
    (h2 : ∀ i j q, q ∈ b.unders i j → v i j ≤ v q.1 q.2)
    (h3 : ∀ i j, pairB b.n (i, j) → ∃ q, hangs b (i, j) q ∧ v i j = b.duty q.1 q.2 g) : ∀ i j, pairB b.n (i, j) → v i j = b.takes i j g := by
  intro i j hp
  have low : ∀ q, hangs b (i, j) q → v i j ≤ v q.1 q.2 := by
    rintro q ⟨k, hk⟩
    induction k generalizing q with
    | zero => have : (i, j) = q := hk; subst this; exact Nat.le_refl _
    | succ k ih =>
      rcases hk with hk | ⟨r, hr, e⟩
      · exact ih q hk
      · exact Nat.le_trans (ih r hr) (h2 _ _ _ e)
  obtain ⟨q, hq, e⟩ := h3 i j hp
  obtain ⟨q', hq', e'⟩ := takes_at G hp g
  have a1 : b.takes i j g ≤ v i j := by rw [e]; exact takes_le G hp hq
  have a2 : v i j ≤ b.takes i j g := by
    rw [e']
    have pq := hangs_pairB G hp hq'
    exact Nat.le_trans (low q' hq') (h1 q'.1 q'.2 pq)
  omega
theorem takes_le_duty {b : Book} (G : Good b) {i j g : Nat} (hp : pairB b.n (i, j)) : b.takes i j g ≤ b.duty i j g := takes_le G hp (hangs.refl b _)
theorem takes_kept {b : Book} (G : Good b) {i j g : Nat} (hp : pairB b.n (i, j)) {q : Nat × Nat} (h : q ∈ b.unders i j) : b.takes i j g ≤ b.takes q.1 q.2 g := by
  have pq := (unders_pairB G h).1
  obtain ⟨r, hr, e⟩ := takes_at G (i := q.1) (j := q.2) pq g
  rw [e]
  exact takes_le G hp (hangs.cons h hr)

end Mf

namespace Mf
open Km482

/-! ### places in a flat list -/
theorem flat_get {α β : Type} (f : α → List β) (k : Nat) : ∀ (l : List α), (∀ x ∈ l, (f x).length = k) → ∀ (a r : Nat) (x : α), l[a]? = some x → r < k → (l.flatMap f)[a * k + r]? = (f x)[r]?
  | [], _, a, r, x, h, _ => by simp at h
  | y :: l, hl, 0, r, x, h, hr => by
    have e : y = x := by simpa using h
    subst e
    have hy : (f y).length = k := hl y (by simp)
    rw [List.flatMap_cons, List.getElem?_append_left (by omega)]
    congr 1
    omega
  | y :: l, hl, a + 1, r, x, h, hr => by
    have hy : (f y).length = k := hl y (by simp)
    rw [List.flatMap_cons, List.getElem?_append_right (by rw [hy, Nat.succ_mul]; omega)]
    have e : (a + 1) * k + r - (f y).length = a * k + r := by rw [hy, Nat.succ_mul]; omega
    rw [e]
    exact flat_get f k l (fun z hz => hl z (by simp [hz])) a r x (by simpa using h) hr
/-- the numbers of a table, good by good, row by row -/
def table (n m : Nat) (f : Nat → Nat → Nat → Nat) : List Nat := (List.range m).flatMap fun g => (List.range n).flatMap fun i => (List.range n).map fun j => f i j g
theorem row_len (n : Nat) (h : Nat → Nat → Nat) : ((List.range n).flatMap fun i => (List.range n).map fun j => h i j).length = n * n := by
  rw [flat_len _ n, List.length_range]
  intro x _
  rw [List.length_map, List.length_range]
theorem table_len (n m : Nat) (f : Nat → Nat → Nat → Nat) : (table n m f).length = n * n * m := by
  unfold table
  rw [flat_len _ (n * n), List.length_range, Nat.mul_comm]
  intro g _
  exact row_len n fun i j => f i j g
theorem range_get {n i : Nat} (h : i < n) : (List.range n)[i]? = some i := by rw [List.getElem?_range h]
theorem table_get {n m : Nat} {f : Nat → Nat → Nat → Nat} {i j g : Nat} (hi : i < n) (hj : j < n) (hg : g < m) : (table n m f)[(g * n + i) * n + j]? = some (f i j g) := by
  unfold table
  have e : (g * n + i) * n + j = g * (n * n) + (i * n + j) := by rw [Nat.add_mul, Nat.mul_assoc]; omega
  have h2 : i * n + j < n * n := by
    have : (i + 1) * n ≤ n * n := Nat.mul_le_mul_right n hi
    rw [Nat.add_mul] at this
    omega
  rw [e, flat_get _ (n * n) _ (fun g _ => row_len n fun i j => f i j g) g (i * n + j) g (range_get hg) h2]
  rw [flat_get _ n _ (fun i _ => by rw [List.length_map, List.length_range]) i j i (range_get hi) hj]
  rw [List.getElem?_map, range_get hj]
  rfl
theorem place_lt {n m i j g : Nat} (hi : i < n) (hj : j < n) (hg : g < m) : (g * n + i) * n + j < n * n * m := by
  have := List.getElem?_eq_some_iff.mp (table_get (f := fun _ _ _ => 0) hi hj hg)
  obtain ⟨h, _⟩ := this
  rwa [table_len] at h
theorem place_inj {n i j g i' j' g' : Nat} (hi : i < n) (hj : j < n) (hi' : i' < n) (hj' : j' < n) (h : (g * n + i) * n + j = (g' * n + i') * n + j') : i = i' ∧ j = j' ∧ g = g' := by
  have np : 0 < n := by omega
  have a1 : (g * n + i) * n + j = j + n * (g * n + i) := by rw [Nat.mul_comm]; omega
  have a2 : (g' * n + i') * n + j' = j' + n * (g' * n + i') := by rw [Nat.mul_comm]; omega
  rw [a1, a2] at h
  have e1 : j = j' := by
    have := congrArg (· % n) h
    simp only [Nat.add_mul_mod_self_left] at this
    rwa [Nat.mod_eq_of_lt hj, Nat.mod_eq_of_lt hj'] at this
  have e2 : g * n + i = g' * n + i' := by
    have h' : n * (g * n + i) = n * (g' * n + i') := by omega
    exact Nat.eq_of_mul_eq_mul_left np h'
  have b1 : g * n + i = i + n * g := by rw [Nat.mul_comm]; omega
  have b2 : g' * n + i' = i' + n * g' := by rw [Nat.mul_comm]; omega
  rw [b1, b2] at e2
  have e3 : i = i' := by
    have := congrArg (· % n) e2
    simp only [Nat.add_mul_mod_self_left] at this
    rwa [Nat.mod_eq_of_lt hi, Nat.mod_eq_of_lt hi'] at this
  have e4 : n * g = n * g' := by omega
  exact ⟨e3, e1, Nat.eq_of_mul_eq_mul_left np e4⟩
/-- a list as long as the table, with its numbers, is the table -/
theorem table_ext {n m : Nat} {f : Nat → Nat → Nat → Nat} {d : List Nat} (hl : d.length = n * n * m) (h : ∀ i j g, i < n → j < n → g < m → d[(g * n + i) * n + j]? = some (f i j g)) : d = table n m f := by
  apply List.ext_getElem?
  intro x
  by_cases hx : x < n * n * m
  · -- x is a place
    have np : 0 < n := by
      rcases Nat.eq_zero_or_pos n with z | z
      · subst z; simp at hx
      · exact z
    have hj : x % n < n := Nat.mod_lt _ np
    have hi : x / n % n < n := Nat.mod_lt _ np
    have hg : x / n / n < m := by
      rw [Nat.div_div_eq_div_mul]
      exact Nat.div_lt_of_lt_mul hx
    have e : (x / n / n * n + x / n % n) * n + x % n = x := by
      have h1 := Nat.div_add_mod (x / n) n
      have h2 := Nat.div_add_mod x n
      rw [Nat.mul_comm] at h1 h2
      rw [h1, h2]
    have a := h _ _ _ hi hj hg
    have c := table_get (f := f) hi hj hg
    rw [e] at a c
    rw [a, c]
  · rw [List.getElem?_eq_none (by omega), List.getElem?_eq_none (by rw [table_len]; omega)]

theorem duty_get {b : Book} (G : b.duties.length = b.n * b.n * b.m) {i j g : Nat} (hi : i < b.n) (hj : j < b.n) (hg : g < b.m) : b.duties[(g * b.n + i) * b.n + j]? = some (b.duty i j g) := by
  unfold Book.duty Book.place
  have hx : (g * b.n + i) * b.n + j < b.duties.length := by rw [G]; exact place_lt hi hj hg
  rw [List.getD_eq_getElem?_getD, List.getElem?_eq_getElem hx]
  rfl
theorem duties_table {b : Book} (h : b.duties.length = b.n * b.n * b.m) : b.duties = table b.n b.m b.duty := table_ext h fun _ _ _ hi hj hg => duty_get h hi hj hg
theorem duty_of_table {n m : Nat} {f : Nat → Nat → Nat → Nat} {cs : List Clause} {us : List (Nat × Nat)} {i j g : Nat} (hi : i < n) (hj : j < n) (hg : g < m) : (Book.mk n m (table n m f) cs us).duty i j g = f i j g := by
  show (table n m f).getD ((g * n + i) * n + j) 0 = f i j g
  rw [List.getD_eq_getElem?_getD, table_get hi hj hg]
  rfl
theorem duty_le {b : Book} (G : Good b) (i j g : Nat) : b.duty i j g ≤ 100 := by
  unfold Book.duty
  rw [List.getD_eq_getElem?_getD]
  cases e : b.duties[b.place i j g]? with
  | none => exact Nat.zero_le _
  | some x => exact G.d100 x (List.mem_of_getElem? e)
theorem takes_le_100 {b : Book} (G : Good b) (i j g : Nat) : b.takes i j g ≤ 100 := by
  unfold Book.takes Book.least
  exact Nat.le_trans (foldl_min_le _ _).1 (duty_le G i j g)
theorem table_mem {n m : Nat} {f : Nat → Nat → Nat → Nat} {x : Nat} (h : x ∈ table n m f) : ∃ i j g, i < n ∧ j < n ∧ g < m ∧ x = f i j g := by
  unfold table at h
  simp only [List.mem_flatMap, List.mem_range, List.mem_map] at h
  obtain ⟨g, hg, i, hi, j, hj, e⟩ := h
  exact ⟨i, j, g, hi, hj, hg, e.symm⟩

/-! ### changes keep a book good -/
theorem duty_set {b : Book} (G : Good b) {i j g x i' j' g' : Nat} (hi : i < b.n) (hj : j < b.n) (hg : g < b.m) (hi' : i' < b.n) (hj' : j' < b.n) :
    (b.set i j g x).duty i' j' g' = if i' = i ∧ j' = j ∧ g' = g then x else b.duty i' j' g' := by
  show (b.duties.set (b.place i j g) x).getD (b.place i' j' g') 0 = _
  rw [List.getD_eq_getElem?_getD]
  by_cases e : i' = i ∧ j' = j ∧ g' = g
  · rw [if_pos e]
    obtain ⟨rfl, rfl, rfl⟩ := e
    rw [List.getElem?_set_self (by rw [G.dl]; exact place_lt hi hj hg)]
    rfl
  · rw [if_neg e, List.getElem?_set_ne ?_]
    · unfold Book.duty
      rw [List.getD_eq_getElem?_getD]
    · intro z
      obtain ⟨h1, h2, h3⟩ := place_inj hi hj hi' hj' (z : (g * b.n + i) * b.n + j = (g' * b.n + i') * b.n + j')
      exact e ⟨h1.symm, h2.symm, h3.symm⟩
theorem good_set {b : Book} (G : Good b) {i j g x : Nat} (hi : i < b.n) (hj : j < b.n) (hg : g < b.m) (hij : i ≠ j) (hx : x ≤ 100) : Good (b.set i j g x) := by
  refine ⟨G.n2, G.n6, G.m1, G.m3, ?_, ?_, ?_, G.cl, G.cok, G.cnd, G.uok, G.und⟩
  · show (b.duties.set _ x).length = _
    rw [List.length_set]; exact G.dl
  · intro y hy
    rcases List.mem_or_eq_of_mem_set (show y ∈ b.duties.set (b.place i j g) x from hy) with h | h
    · exact G.d100 y h
    · rw [h]; exact hx
  · intro i' g' hi' hg'
    rw [duty_set G hi hj hg hi' hi', if_neg]
    · exact G.diag i' g' hi' hg'
    · rintro ⟨rfl, h, _⟩; exact hij h
theorem good_table {b : Book} (G : Good b) {f : Nat → Nat → Nat → Nat} (h : ∀ i j g, f i j g ≤ 100) (hd : ∀ i g, f i i g = 0) : Good { b with duties := table b.n b.m f } := by
  refine ⟨G.n2, G.n6, G.m1, G.m3, table_len _ _ _, ?_, ?_, G.cl, G.cok, G.cnd, G.uok, G.und⟩
  · intro x hx
    obtain ⟨i, j, g, _, _, _, e⟩ := table_mem hx
    rw [e]; exact h i j g
  · intro i g hi hg
    rw [duty_of_table hi hi hg]; exact hd i g
def tk (b : Book) (i j g : Nat) : Nat := if i = j then 0 else b.takes i j g
theorem settled_eq (b : Book) : b.settled = { b with duties := table b.n b.m (tk b) } := rfl
theorem good_settled {b : Book} (G : Good b) : Good b.settled := by
  rw [settled_eq]
  refine good_table G (fun i j g => ?_) fun i g => ?_
  · unfold tk
    by_cases e : i = j
    · rw [if_pos e]; omega
    · rw [if_neg e]; exact takes_le_100 G i j g
  · unfold tk; rw [if_pos rfl]
theorem settled_iff {b : Book} (G : Good b) : b.settled = b ↔ ∀ i j g, pairB b.n (i, j) → g < b.m → b.takes i j g = b.duty i j g := by
  constructor
  · intro e i j g hp hg
    have h := duty_of_table (f := tk b) (cs := b.clauses) (us := b.unions) hp.1 hp.2.1 hg
    have h2 : b.settled.duty i j g = tk b i j g := h
    rw [e] at h2
    rw [h2]
    unfold tk
    rw [if_neg hp.2.2]
  · intro h
    rw [settled_eq]
    have e : table b.n b.m (tk b) = b.duties := by
      symm
      refine table_ext G.dl fun i j g hi hj hg => ?_
      rw [duty_get G.dl hi hj hg]
      unfold tk
      by_cases z : i = j
      · subst z; rw [if_pos rfl, G.diag i g hi hg]
      · rw [if_neg z, h i j g ⟨hi, hj, z⟩ hg]
    rw [e]
theorem good_clauses {b : Book} (G : Good b) {cs : List Clause} (h1 : cs.length ≤ 16) (h2 : ∀ c ∈ cs, COk b.n c) (h3 : cs.Nodup) : Good { b with clauses := cs } :=
  ⟨G.n2, G.n6, G.m1, G.m3, G.dl, G.d100, G.diag, h1, h2, h3, G.uok, G.und⟩
theorem good_unions {b : Book} (G : Good b) {us : List (Nat × Nat)} (h1 : ∀ p ∈ us, p.1 < p.2 ∧ p.2 < b.n) (h2 : us.Nodup) : Good { b with unions := us } :=
  ⟨G.n2, G.n6, G.m1, G.m3, G.dl, G.d100, G.diag, G.cl, G.cok, G.cnd, h1, h2⟩
theorem nodup_snoc {α : Type} {l : List α} {x : α} (h : l.Nodup) (hx : x ∉ l) : (l ++ [x]).Nodup := by
  rw [List.nodup_append]
  refine ⟨h, by simp, fun a ha b hb e => ?_⟩
  simp at hb
  subst hb; subst e; exact hx ha
theorem without_sub (l : List Clause) (c : Nat) : ∀ x ∈ l.take c ++ l.drop (c + 1), x ∈ l := fun x hx => by
  rcases List.mem_append.mp hx with h | h
  · exact List.mem_of_mem_take h
  · exact List.mem_of_mem_drop h
theorem without_eq (l : List Clause) (c : Nat) : l.take c ++ l.drop (c + 1) = l.eraseIdx c := (List.eraseIdx_eq_take_drop_succ l c).symm
theorem good_without {b : Book} (G : Good b) (c : Nat) : Good (b.without c) := by
  unfold Book.without
  rw [without_eq]
  refine good_clauses G ?_ ?_ ?_
  · exact Nat.le_trans (List.length_eraseIdx_le _ _) G.cl
  · intro x hx
    exact G.cok x (List.mem_of_mem_eraseIdx hx)
  · exact G.cnd.sublist (List.eraseIdx_sublist _ _)
theorem good_fresh {n m : Nat} (h1 : 2 ≤ n) (h2 : n ≤ 6) (h3 : 1 ≤ m) (h4 : m ≤ 3) : Good ⟨n, m, List.replicate (n * n * m) 0, [], []⟩ := by
  refine ⟨h1, h2, h3, h4, List.length_replicate, fun x hx => ?_, fun i g _ _ => ?_, Nat.zero_le _, fun c hc => by simp at hc, List.nodup_nil, fun p hp => by simp at hp, List.nodup_nil⟩
  · rw [List.eq_of_mem_replicate hx]; omega
  · show (List.replicate (n * n * m) 0).getD _ 0 = 0
    rw [List.getD_eq_getElem?_getD]
    cases e : (List.replicate (n * n * m) 0)[(Book.mk n m (List.replicate (n * n * m) 0) [] []).place i i g]? with
    | none => rfl
    | some x => exact List.eq_of_mem_replicate (List.mem_of_getElem? e)

/-! ### the desk -/
structure GoodD (d : Desk) : Prop where
  now : Good d.now
  past : ∀ b ∈ d.past, Good b
  future : ∀ b ∈ d.future, Good b
  few : d.past.length + d.future.length ≤ 20
theorem good_become {d : Desk} (G : GoodD d) {b : Book} (h : Good b) : GoodD (d.become b) := by
  refine ⟨h, fun x hx => ?_, fun x hx => by simp [Desk.become] at hx, ?_⟩
  · have hx' : x ∈ (d.now :: d.past).take PAST := hx
    rcases List.mem_cons.mp (List.mem_of_mem_take hx') with e | hx'
    · rw [e]; exact G.now
    · exact G.past x hx'
  · show ((d.now :: d.past).take PAST).length + 0 ≤ 20
    have := List.length_take_le PAST (d.now :: d.past)
    have e : PAST = 20 := rfl
    omega
theorem no_false {b : Book} {i j : Nat} (h : ¬ b.no i j = true) : i < b.n ∧ j < b.n := by
  unfold Book.no at h
  simp at h
  exact h
theorem no_true {b : Book} {i j : Nat} : b.no i j = true ↔ b.n ≤ i ∨ b.n ≤ j := by
  unfold Book.no; simp
theorem noGood_true {b : Book} {g : Nat} : b.noGood g = true ↔ b.m ≤ g := by
  unfold Book.noGood; simp
theorem good_add {d : Desk} (G : GoodD d) {c : Clause} (h : COk d.now.n c) : GoodD (d.add c).1 := by
  unfold Desk.add
  by_cases h1 : d.now.clauses.contains c = true
  · rw [if_pos h1]; exact G
  · rw [if_neg h1]
    by_cases h2 : CLAUSES ≤ d.now.clauses.length
    · rw [if_pos h2]; exact G
    · rw [if_neg h2]
      have e : CLAUSES = 16 := rfl
      refine good_become G (good_clauses G.now ?_ ?_ ?_)
      · simp; omega
      · intro x hx
        rcases List.mem_append.mp hx with z | z
        · exact G.now.cok x z
        · rw [List.mem_singleton.mp z]; exact h
      · exact nodup_snoc G.now.cnd fun z => h1 (List.contains_iff_mem.mpr z)
theorem act_good {d : Desk} (G : GoodD d) (c : Call) : GoodD (act d c).1 := by
  cases c with
  | start n m =>
    show GoodD (if n < 2 ∨ STATES < n ∨ m = 0 ∨ GOODS < m then (d, only (-22)) else (_, only 0)).1
    by_cases h : n < 2 ∨ STATES < n ∨ m = 0 ∨ GOODS < m
    · rw [if_pos h]; exact G
    · rw [if_neg h]
      have e1 : STATES = 6 := rfl
      have e2 : GOODS = 3 := rfl
      exact ⟨good_fresh (by omega) (by omega) (by omega) (by omega), fun b hb => by simp at hb, fun b hb => by simp at hb, by simp⟩
  | duty i j g x =>
    simp only [act]
    split
    · exact G
    · split
      · exact G
      · rename_i h1 h2
        have h3 := no_false fun z => h1 (.inl z)
        have h4 : g < d.now.m := by
          apply Classical.byContradiction
          intro z
          exact h1 (.inr (noGood_true.mpr (by omega)))
        have e : MOST = 100 := rfl
        exact good_become G (good_set G.now h3.1 h3.2 h4 (fun z => h2 (.inl z)) (by omega))
  | favour i j =>
    simp only [act]
    split
    · exact G
    · split
      · exact G
      · rename_i h1 h2
        have h3 := no_false h1
        exact good_add G ⟨.inl rfl, h3.1, h3.2, by show 0 < _; omega, h2, fun _ => rfl, fun z => by cases z⟩
  | mirror i j =>
    simp only [act]
    split
    · exact G
    · split
      · exact G
      · rename_i h1 h2
        have h3 := no_false h1
        exact good_add G ⟨.inr (.inl rfl), h3.1, h3.2, by show 0 < _; omega, h2, fun _ => rfl, fun z => by cases z⟩
  | follow i j k =>
    simp only [act]
    split
    · exact G
    · split
      · exact G
      · rename_i h1 h2
        have h3 := no_false fun z => h1 (.inl z)
        have h4 : k < d.now.n := by
          apply Classical.byContradiction
          intro z
          exact h1 (.inr (by omega))
        exact good_add G ⟨.inr (.inr rfl), h3.1, h3.2, h4, fun z => h2 (.inl z), fun z => absurd rfl z, fun _ => ⟨fun z => h2 (.inr (.inl z.symm)), fun z => h2 (.inr (.inr z.symm))⟩⟩
  | drop c =>
    simp only [act]
    split
    · exact G
    · exact good_become G (good_without G.now c)
  | clause c => exact G
  | union i j =>
    simp only [act]
    split
    · exact G
    · split
      · exact G
      · split
        · exact G
        · rename_i h1 h2 h3
          have h4 := no_false h1
          refine good_become G (good_unions G.now (fun p hp => ?_) (nodup_snoc G.now.und fun z => h3 (List.contains_iff_mem.mpr z)))
          rcases List.mem_append.mp hp with z | z
          · exact G.now.uok p z
          · rw [List.mem_singleton.mp z]
            show min i j < max i j ∧ max i j < d.now.n
            omega
  | part i j =>
    simp only [act]
    split
    · exact G
    · split
      · exact G
      · exact good_become G (good_unions G.now (fun p hp => G.now.uok p (List.mem_filter.mp hp).1) (G.now.und.sublist List.filter_sublist))
  | laid i j g => exact G
  | takes i j g => exact G
  | row i g => exact G
  | falls => exact G
  | would i j g x => exact G
  | why i j g => exact G
  | moves i j g => exact G
  | kept => exact G
  | settle =>
    simp only [act]
    split
    · exact G
    · exact good_become G (good_settled G.now)
  | alike i g => exact G
  | idle => exact G
  | back =>
    simp only [act]
    split
    · exact G
    · rename_i k r e
      have few := G.few
      rw [e, List.length_cons] at few
      refine ⟨G.past k (by rw [e]; simp), fun b hb => G.past b (by rw [e]; exact List.mem_cons_of_mem _ hb), fun b hb => ?_, by show r.length + (d.future.length + 1) ≤ 20; omega⟩
      rcases List.mem_cons.mp hb with z | z
      · rw [z]; exact G.now
      · exact G.future b z
  | again =>
    simp only [act]
    split
    · exact G
    · rename_i k r e
      have few := G.few
      rw [e, List.length_cons] at few
      refine ⟨G.future k (by rw [e]; simp), fun b hb => ?_, fun b hb => G.future b (by rw [e]; exact List.mem_cons_of_mem _ hb), ?_⟩
      · rcases List.mem_cons.mp (List.mem_of_mem_take (show b ∈ (d.now :: d.past).take PAST from hb)) with z | z
        · rw [z]; exact G.now
        · exact G.past b z
      · show ((d.now :: d.past).take PAST).length + r.length ≤ 20
        rw [List.length_take, List.length_cons]
        omega
  | state => exact G

/-! ### questions -/
theorem each_eq (b : Book) : b.each = b.goods.flatMap fun g => b.pairs.map fun p => b.takes p.1 p.2 g := by
  unfold Book.each
  simp only [List.map_map]
  rfl
end Mf

namespace Mf
open Km482

/-! ### by how few -/
theorem rounds_grow {b : Book} (p : Nat × Nat) : ∀ k : Nat, k + 1 ≤ (rounds b k [p]).length ∨ ∀ q, hangs b p q → q ∈ rounds b k [p]
  | 0 => .inl (by show 1 ≤ [p].length; simp)
  | k + 1 => by
    rcases rounds_grow (b := b) p k with h | h
    · by_cases e : (more b (rounds b k [p])).length = (rounds b k [p]).length
      · right
        have cl := closed_of (rounds_nodup b p k) e
        have all : ∀ (j : Nat) (q : Nat × Nat), within b j p q → q ∈ rounds b k [p] := by
          intro j
          induction j with
          | zero =>
            intro q hq
            have : p = q := hq
            subst this
            exact rounds_mem_of b k [p] p (by simp)
          | succ j ih =>
            intro q hq
            rcases hq with hq | ⟨r, hr, e2⟩
            · exact ih q hq
            · exact cl q ((more_mem b _ q).mpr (.inr ⟨r, ih r hr, e2⟩))
        rintro q ⟨j, hj⟩
        rw [rounds_succ, more_mem]
        exact .inl (all j q hj)
      · left
        have sub : (rounds b k [p]) ⊆ more b (rounds b k [p]) := fun x hx => (more_mem b _ x).mpr (.inl hx)
        have := List.Nodup.length_le_of_subset (rounds_nodup b p k) sub
        rw [rounds_succ]
        omega
    · right
      intro q hq
      rw [rounds_succ, more_mem]
      exact .inl (h q hq)
theorem within_all {b : Book} (G : Good b) {p : Nat × Nat} (hp : pairB b.n p) {q : Nat × Nat} (h : hangs b p q) {k : Nat} (hk : b.n * b.n ≤ k) : within b k p q := by
  have hw : within b (b.n * b.n) p q := by
    rcases rounds_grow (b := b) p (b.n * b.n) with z | z
    · exfalso
      have := len_le (n := b.n) (rounds_nodup b p (b.n * b.n)) fun q hq => (within_pairB G hp _ q ((rounds_within b p _ q).mp hq)).inB
      omega
    · exact (rounds_within b p _ q).mp (z q h)
  exact hw.mono k hk
/-- the answer of why: by the fewest, and of like ones the first -/
structure Why (b : Book) (p : Nat × Nat) (t g f : Nat) (q : Nat × Nat) : Prop where
  at_ : within b f p q ∧ b.duty q.1 q.2 g = t
  few : ∀ f', f' < f → ∀ r, within b f' p r → b.duty r.1 r.2 g ≠ t
  first : ∃ l1 l2, b.pairs = l1 ++ q :: l2 ∧ ∀ r ∈ l1, ¬ (within b f p r ∧ b.duty r.1 r.2 g = t)
theorem find_split {α : Type} {P : α → Bool} : ∀ {l : List α} {x : α}, l.find? P = some x → P x = true ∧ ∃ l1 l2, l = l1 ++ x :: l2 ∧ ∀ y ∈ l1, P y = false
  | [], x, h => by simp at h
  | a :: l, x, h => by
    by_cases e : P a = true
    · rw [List.find?_cons_of_pos e] at h
      cases h
      exact ⟨e, [], l, rfl, fun y hy => by simp at hy⟩
    · rw [List.find?_cons_of_neg e] at h
      obtain ⟨h1, l1, l2, h2, h3⟩ := find_split h
      refine ⟨h1, a :: l1, l2, by rw [h2]; rfl, fun y hy => ?_⟩
      rcases List.mem_cons.mp hy with z | z
      · rw [z]; simpa using e
      · exact h3 y z
theorem whyGo_spec {b : Book} (G : Good b) {p : Nat × Nat} (hp : pairB b.n p) {t g : Nat} (hq : ∃ q, hangs b p q ∧ b.duty q.1 q.2 g = t) : ∀ (k f : Nat), b.n * b.n < f + k → (∀ f', f' < f → ∀ r, within b f' p r → b.duty r.1 r.2 g ≠ t) →
    Why b p t g (b.whyGo t g k f (rounds b f [p])).1 (b.whyGo t g k f (rounds b f [p])).2
  | 0, f, h1, h2 => by
    exfalso
    obtain ⟨q, hq, e⟩ := hq
    exact h2 (b.n * b.n) (by omega) q (within_all G hp hq (Nat.le_refl _)) e
  | k + 1, f, h1, h2 => by
    have key : ∀ q, (List.contains (rounds b f [p]) q && (b.duty q.1 q.2 g == t)) = true ↔ within b f p q ∧ b.duty q.1 q.2 g = t := by
      intro q
      rw [Bool.and_eq_true, List.contains_iff_mem, rounds_within, beq_iff_eq]
    unfold Book.whyGo
    cases e : b.pairs.find? fun q => (rounds b f [p]).contains q && b.duty q.1 q.2 g == t with
    | some q =>
      obtain ⟨h3, l1, l2, h4, h5⟩ := find_split e
      refine ⟨(key q).mp h3, h2, l1, l2, h4, fun r hr z => ?_⟩
      have := h5 r hr
      rw [(key r).mpr z] at this
      cases this
    | none =>
      have h3 : ∀ r, within b f p r → b.duty r.1 r.2 g ≠ t := by
        intro r hr z
        have := List.find?_eq_none.mp e r (pairs_mem.mpr (within_pairB G hp f r hr))
        exact this ((key r).mpr ⟨hr, z⟩)
      have h4 := whyGo_spec G hp hq k (f + 1) (by omega) (fun f' hf' r hr => by
        by_cases z : f' = f
        · subst z; exact h3 r hr
        · exact h2 f' (by omega) r hr)
      rw [rounds_succ] at h4
      exact h4
theorem why_spec {b : Book} (G : Good b) {i j : Nat} (hp : pairB b.n (i, j)) (g : Nat) : Why b (i, j) (b.takes i j g) g (b.why i j g).1 (b.why i j g).2 := by
  obtain ⟨q, hq, e⟩ := takes_at G hp g
  exact whyGo_spec G hp ⟨q, hq, e.symm⟩ (b.n * b.n + 1) 0 (by omega) (fun f' hf' => by omega)
/-- there is one such answer -/
theorem Why.unique {b : Book} {p : Nat × Nat} {t g f f' : Nat} {q q' : Nat × Nat} (h : Why b p t g f q) (h' : Why b p t g f' q') : f = f' ∧ q = q' := by
  have e : f = f' := by
    rcases Nat.lt_trichotomy f f' with z | z | z
    · exact absurd h.at_.2 (h'.few f z q h.at_.1)
    · exact z
    · exact absurd h'.at_.2 (h.few f' z q' h'.at_.1)
  subst e
  refine ⟨rfl, ?_⟩
  obtain ⟨l1, l2, e1, n1⟩ := h.first
  obtain ⟨m1, m2, e2, n2⟩ := h'.first
  rw [e1] at e2
  clear e1
  induction l1 generalizing m1 with
  | nil =>
    cases m1 with
    | nil => simp at e2; exact e2.1
    | cons x m1 =>
      simp at e2
      exact absurd h.at_ (e2.1 ▸ n2 x (by simp))
  | cons y l1 ih =>
    cases m1 with
    | nil =>
      simp at e2
      exact absurd h'.at_ (e2.1 ▸ n1 y (by simp))
    | cons x m1 =>
      simp at e2
      exact ih (fun r hr => n1 r (by simp [hr])) m1 e2.2 (fun r hr => n2 r (by simp [hr]))

/-! ### the calls, one behind another -/
theorem told_cons (a : List Int) (l : List (List Int)) : PyFlat.told (a :: l) = (a.length : Int) :: (a ++ PyFlat.told l) := by
  unfold PyFlat.told
  rw [List.flatMap_cons]
  rfl
/-- how many numbers stand behind a call's own -/
def behind (p : Int) : Nat := match PyKm482.shape p with
  | some (n, _) => n
  | none => 0
theorem ite_rows {c : Prop} [Decidable c] {a : Nat} {e : Option (Nat × Nat)} {n k : Nat} (h : (if c then some (a, 0) else e) = some (n, k)) (h2 : e = some (n, k) → k = 0) : k = 0 := by
  by_cases z : c
  · rw [if_pos z] at h; cases h; rfl
  · rw [if_neg z] at h; exact h2 h
theorem shape_rows (p : Int) (n k : Nat) (h : PyKm482.shape p = some (n, k)) : k = 0 := by
  unfold PyKm482.shape at h
  repeat refine ite_rows h fun h => ?_
  cases h
theorem calls_cons {f : Nat} {p : Int} {r : List Int} {cs : List (List (List Int))} (h : PyFlat.calls PyKm482.shape (f + 1) (p :: r) = some cs) :
    ∃ n cs', PyKm482.shape p = some (n, 0) ∧ n ≤ r.length ∧ cs = [p :: r.take n] :: cs' ∧ PyFlat.calls PyKm482.shape f (r.drop n) = some cs' := by
  simp only [PyFlat.calls, PyFlat.call] at h
  cases e : PyKm482.shape p with
  | none => rw [e] at h; simp at h
  | some x =>
    obtain ⟨n, k⟩ := x
    have hk := shape_rows p n k e
    subst hk
    rw [e] at h
    by_cases z : r.length < n
    · simp [z] at h
    · simp only [z, if_false, PyFlat.rows] at h
      cases e2 : PyFlat.calls PyKm482.shape f (r.drop n) with
      | none => rw [e2] at h; simp at h
      | some cs' =>
        rw [e2] at h
        simp at h
        exact ⟨n, cs', rfl, by omega, h.symm, e2⟩
end Mf

namespace Mf
open Km482

/-! ### a table of rows that is lowered -/
def get2 (T : List (List Nat)) (i j : Nat) : Nat := (T.getD i []).getD j 0
def set2 (T : List (List Nat)) (i j v : Nat) : List (List Nat) := T.set i ((T.getD i []).set j v)
def Shape (n : Nat) (T : List (List Nat)) : Prop := T.length = n ∧ ∀ r ∈ T, r.length = n
theorem Shape.row {n : Nat} {T : List (List Nat)} (h : Shape n T) {i : Nat} (hi : i < n) : ∃ r, T[i]? = some r ∧ T.getD i [] = r ∧ r.length = n := by
  have hl : i < T.length := by rw [h.1]; exact hi
  refine ⟨T[i], List.getElem?_eq_getElem hl, ?_, h.2 _ (List.getElem_mem hl)⟩
  rw [List.getD_eq_getElem?_getD, List.getElem?_eq_getElem hl]
  rfl
theorem Shape.set2 {n : Nat} {T : List (List Nat)} (h : Shape n T) {i : Nat} (hi : i < n) (j v : Nat) : Shape n (set2 T i j v) := by
  obtain ⟨r, h1, h2, h3⟩ := h.row hi
  unfold Mf.set2
  refine ⟨by rw [List.length_set]; exact h.1, fun s hs => ?_⟩
  rcases List.mem_or_eq_of_mem_set hs with z | z
  · exact h.2 s z
  · rw [z, List.length_set, h2]; exact h3
theorem get2_set2 {n : Nat} {T : List (List Nat)} (h : Shape n T) {i j v i' j' : Nat} (hi : i < n) (hj : j < n) : get2 (set2 T i j v) i' j' = if i' = i ∧ j' = j then v else get2 T i' j' := by
  obtain ⟨r, h1, h2, h3⟩ := h.row hi
  have hl : i < T.length := by rw [h.1]; exact hi
  unfold get2 set2
  rw [h2]
  by_cases e : i' = i
  · subst e
    have e1 : (T.set i' (r.set j v)).getD i' [] = r.set j v := by
      rw [List.getD_eq_getElem?_getD, List.getElem?_set_self hl]; rfl
    rw [e1, h2]
    by_cases e2 : j' = j
    · subst e2
      rw [if_pos ⟨rfl, rfl⟩, List.getD_eq_getElem?_getD, List.getElem?_set_self (by omega)]; rfl
    · rw [if_neg (fun z => e2 z.2), List.getD_eq_getElem?_getD, List.getElem?_set_ne (fun z => e2 z.symm), ← List.getD_eq_getElem?_getD]
  · rw [if_neg (fun z => e z.1)]
    congr 1
    rw [List.getD_eq_getElem?_getD, List.getElem?_set_ne (fun z => e z.symm), ← List.getD_eq_getElem?_getD]
/-- all its numbers -/
def total (T : List (List Nat)) : Nat := (T.map List.sum).sum
theorem sum_set : ∀ (l : List Nat) (j v : Nat) (_ : j < l.length), (l.set j v).sum + l.getD j 0 = l.sum + v
  | [], j, v, h => by simp at h
  | a :: l, 0, v, _ => by
    rw [List.set_cons_zero, List.sum_cons, List.sum_cons, List.getD_cons_zero]; omega
  | a :: l, j + 1, v, h => by
    have ih := sum_set l j v (by simpa using h)
    rw [List.set_cons_succ, List.sum_cons, List.sum_cons, List.getD_cons_succ]; omega
theorem total_set : ∀ (T : List (List Nat)) (i : Nat) (r : List Nat) (_ : i < T.length), total (T.set i r) + (T.getD i []).sum = total T + r.sum
  | [], i, r, h => by simp at h
  | a :: T, 0, r, _ => by
    unfold total
    rw [List.set_cons_zero, List.map_cons, List.map_cons, List.sum_cons, List.sum_cons, List.getD_cons_zero]; omega
  | a :: T, i + 1, r, h => by
    have ih := total_set T i r (by simpa using h)
    unfold total at ih ⊢
    rw [List.set_cons_succ, List.map_cons, List.map_cons, List.sum_cons, List.sum_cons, List.getD_cons_succ]; omega
theorem total_set2 {n : Nat} {T : List (List Nat)} (h : Shape n T) {i j v : Nat} (hi : i < n) (hj : j < n) : total (set2 T i j v) + get2 T i j = total T + v := by
  obtain ⟨r, h1, h2, h3⟩ := h.row hi
  have hl : i < T.length := by rw [h.1]; exact hi
  have a := total_set T i ((T.getD i []).set j v) hl
  have c := sum_set (T.getD i []) j v (by rw [h2, h3]; exact hj)
  unfold set2 get2
  omega

/-! ### lowering -/
abbrev Pr := (Nat × Nat) × (Nat × Nat)
/-- one pair: the first is to be no more than the second -/
def lowerOne (T : List (List Nat)) (p : Pr) : List (List Nat) := if get2 T p.2.1 p.2.2 < get2 T p.1.1 p.1.2 then set2 T p.1.1 p.1.2 (get2 T p.2.1 p.2.2) else T
def fellOne (T : List (List Nat)) (p : Pr) : Bool := decide (get2 T p.2.1 p.2.2 < get2 T p.1.1 p.1.2)
/-- all pairs, one behind another: the table; whether any fell -/
def lowerAll : List Pr → List (List Nat) × Bool → List (List Nat) × Bool
  | [], s => s
  | p :: l, s => lowerAll l (lowerOne s.1 p, s.2 || fellOne s.1 p)
theorem lowerAll_snoc : ∀ (l : List Pr) (p : Pr) (s : List (List Nat) × Bool), lowerAll (l ++ [p]) s = (lowerOne (lowerAll l s).1 p, (lowerAll l s).2 || fellOne (lowerAll l s).1 p)
  | [], p, s => rfl
  | q :: l, p, s => by
    show lowerAll (l ++ [p]) _ = _
    rw [lowerAll_snoc l p]
    rfl
/-- the pairs that the clauses ask -/
def boundsOf (b : Book) (c : Clause) : List (Nat × Nat) := b.under c.i c.j c
def boundsAll (b : Book) : List Pr := b.clauses.flatMap fun c => (boundsOf b c).map fun q => ((c.i, c.j), q)
theorem boundsAll_mem {b : Book} {p : Pr} : p ∈ boundsAll b ↔ p.2 ∈ b.unders p.1.1 p.1.2 := by
  unfold boundsAll boundsOf
  rw [unders_mem]
  simp only [List.mem_flatMap, List.mem_map]
  constructor
  · rintro ⟨c, hc, q, hq, rfl⟩; exact ⟨c, hc, hq⟩
  · rintro ⟨c, hc, hq⟩
    obtain ⟨e1, e2, _⟩ := under_mem.mp hq
    refine ⟨c, hc, p.2, ?_, ?_⟩
    · rw [e1, e2]; exact hq
    · rw [e1, e2]
/-- what holds of the table while it is lowered -/
structure Low (b : Book) (g : Nat) (T : List (List Nat)) : Prop where
  sh : Shape b.n T
  diag : ∀ i, i < b.n → get2 T i i = 0
  le : ∀ i j, pairB b.n (i, j) → get2 T i j ≤ b.duty i j g
  at_ : ∀ i j, pairB b.n (i, j) → ∃ q, hangs b (i, j) q ∧ get2 T i j = b.duty q.1 q.2 g
theorem Low.one {b : Book} (G : Good b) {g : Nat} {T : List (List Nat)} (h : Low b g T) {p : Pr} (hp : p ∈ boundsAll b) : Low b g (lowerOne T p) := by
  have hu := boundsAll_mem.mp hp
  obtain ⟨p2, p1⟩ := unders_pairB G hu
  have q1 : p.1.1 < b.n := p1.1
  have q2 : p.1.2 < b.n := p1.2.1
  have q3 : p.1.1 ≠ p.1.2 := p1.2.2
  unfold lowerOne
  by_cases e : get2 T p.2.1 p.2.2 < get2 T p.1.1 p.1.2
  · rw [if_pos e]
    refine ⟨h.sh.set2 q1 _ _, fun i hi => ?_, fun i j hij => ?_, fun i j hij => ?_⟩
    · rw [get2_set2 h.sh q1 q2, if_neg]
      · exact h.diag i hi
      · rintro ⟨z1, z2⟩; exact q3 (z1.symm.trans z2)
    · rw [get2_set2 h.sh q1 q2]
      by_cases z : i = p.1.1 ∧ j = p.1.2
      · rw [if_pos z, z.1, z.2]
        exact Nat.le_trans (Nat.le_of_lt e) (h.le _ _ p1)
      · rw [if_neg z]; exact h.le i j hij
    · rw [get2_set2 h.sh q1 q2]
      by_cases z : i = p.1.1 ∧ j = p.1.2
      · rw [if_pos z]
        obtain ⟨q, hq, e2⟩ := h.at_ p.2.1 p.2.2 p2
        exact ⟨q, by rw [z.1, z.2]; exact hangs.cons hu hq, e2⟩
      · rw [if_neg z]; exact h.at_ i j hij
  · rw [if_neg e]; exact h
theorem Low.all {b : Book} (G : Good b) {g : Nat} : ∀ (l : List Pr) (_ : ∀ p ∈ l, p ∈ boundsAll b) (s : List (List Nat) × Bool), Low b g s.1 → Low b g (lowerAll l s).1
  | [], _, _, h => h
  | p :: l, hl, s, h => Low.all G l (fun q hq => hl q (by simp [hq])) _ (h.one G (hl p (by simp)))
theorem one_total {b : Book} (G : Good b) {g : Nat} {T : List (List Nat)} (h : Low b g T) {p : Pr} (hp : p ∈ boundsAll b) : total (lowerOne T p) ≤ total T ∧ (fellOne T p = true → total (lowerOne T p) < total T) := by
  have hu := boundsAll_mem.mp hp
  obtain ⟨p2, p1⟩ := unders_pairB G hu
  unfold lowerOne fellOne
  by_cases e : get2 T p.2.1 p.2.2 < get2 T p.1.1 p.1.2
  · rw [if_pos e]
    have := total_set2 h.sh (i := p.1.1) (j := p.1.2) (v := get2 T p.2.1 p.2.2) p1.1 p1.2.1
    constructor
    · omega
    · intro _; omega
  · rw [if_neg e]
    refine ⟨Nat.le_refl _, fun z => ?_⟩
    rw [decide_eq_true_iff] at z
    exact absurd z e
/-- one pass: nothing fell, and the table keeps every pair; or it is less -/
theorem pass {b : Book} (G : Good b) {g : Nat} : ∀ (l : List Pr) (_ : ∀ p ∈ l, p ∈ boundsAll b) (T : List (List Nat)) (f : Bool), Low b g T →
    total (lowerAll l (T, f)).1 ≤ total T ∧ (f = true → (lowerAll l (T, f)).2 = true) ∧
    (((lowerAll l (T, f)).2 = false ∧ (lowerAll l (T, f)).1 = T ∧ ∀ p ∈ l, get2 T p.1.1 p.1.2 ≤ get2 T p.2.1 p.2.2) ∨ ((lowerAll l (T, f)).2 = true ∧ (f = true ∨ total (lowerAll l (T, f)).1 < total T)))
  | [], _, T, f, _ => by
    refine ⟨Nat.le_refl _, fun h => h, ?_⟩
    cases f with
    | false => exact .inl ⟨rfl, rfl, fun p hp => by simp at hp⟩
    | true => exact .inr ⟨rfl, .inl rfl⟩
  | p :: l, hl, T, f, h => by
    have hp := hl p (by simp)
    obtain ⟨t1, t2⟩ := one_total G h hp
    obtain ⟨a1, a2, a3⟩ := pass G l (fun q hq => hl q (by simp [hq])) (lowerOne T p) (f || fellOne T p) (h.one G hp)
    have e0 : lowerAll (p :: l) (T, f) = lowerAll l (lowerOne T p, f || fellOne T p) := rfl
    rw [e0]
    refine ⟨Nat.le_trans a1 t1, fun z => a2 (by rw [z]; rfl), ?_⟩
    rcases a3 with ⟨b1, b2, b3⟩ | ⟨b1, b2⟩
    · left
      have nf : fellOne T p = false := by
        cases e : fellOne T p with
        | false => rfl
        | true =>
          have := a2 (by rw [e]; simp)
          rw [b1] at this; cases this
      have eT : lowerOne T p = T := by
        unfold lowerOne
        unfold fellOne at nf
        rw [if_neg (by simpa using nf)]
      rw [eT] at b2 b3
      refine ⟨b1, by rw [eT]; exact b2, fun q hq => ?_⟩
      rcases List.mem_cons.mp hq with z | z
      · subst z
        unfold fellOne at nf
        simp at nf; exact nf
      · exact b3 q z
    · right
      refine ⟨b1, ?_⟩
      rcases b2 with z | z
      · cases f with
        | true => exact .inl rfl
        | false =>
          have : fellOne T p = true := by simpa using z
          exact .inr (Nat.lt_of_le_of_lt a1 (t2 this))
      · exact .inr (Nat.lt_of_lt_of_le z t1)
/-- the table at the end -/
def takenRows (b : Book) (g : Nat) : List (List Nat) := (List.range b.n).map fun i => (List.range b.n).map fun j => tk b i j g
theorem rows_ext {n : Nat} {T : List (List Nat)} {f : Nat → Nat → Nat} (h : Shape n T) (e : ∀ i j, i < n → j < n → get2 T i j = f i j) : T = (List.range n).map fun i => (List.range n).map fun j => f i j := by
  apply List.ext_getElem?
  intro i
  by_cases hi : i < n
  · obtain ⟨r, h1, h2, h3⟩ := h.row hi
    rw [h1, List.getElem?_map, range_get hi]
    show some r = some _
    congr 1
    apply List.ext_getElem?
    intro j
    by_cases hj : j < n
    · rw [List.getElem?_map, range_get hj]
      show r[j]? = some (f i j)
      rw [← e i j hi hj]
      unfold get2
      rw [h2, List.getD_eq_getElem?_getD, List.getElem?_eq_getElem (by omega)]
      rfl
    · rw [List.getElem?_eq_none (by omega), List.getElem?_eq_none (by rw [List.length_map, List.length_range]; omega)]
  · rw [List.getElem?_eq_none (by rw [h.1]; omega), List.getElem?_eq_none (by rw [List.length_map, List.length_range]; omega)]
theorem low_end {b : Book} (G : Good b) {g : Nat} {T : List (List Nat)} (h : Low b g T) (hk : ∀ p ∈ boundsAll b, get2 T p.1.1 p.1.2 ≤ get2 T p.2.1 p.2.2) : T = takenRows b g := by
  refine rows_ext h.sh fun i j hi hj => ?_
  unfold tk
  by_cases e : i = j
  · subst e; rw [if_pos rfl]; exact h.diag i hi
  · rw [if_neg e]
    exact takes_unique G (v := get2 T) h.le (fun i j q hq => hk ((i, j), q) (boundsAll_mem.mpr hq)) h.at_ i j ⟨hi, hj, e⟩
/-- the rows as they are laid down -/
def laidRows (b : Book) (g : Nat) : List (List Nat) := (List.range b.n).map fun i => (List.range b.n).map fun j => b.duty i j g
theorem rows_shape (n : Nat) (f : Nat → Nat → Nat) : Shape n ((List.range n).map fun i => (List.range n).map fun j => f i j) := by
  refine ⟨by rw [List.length_map, List.length_range], fun r hr => ?_⟩
  obtain ⟨i, _, rfl⟩ := List.mem_map.mp hr
  rw [List.length_map, List.length_range]
theorem rows_get {n : Nat} {f : Nat → Nat → Nat} {i j : Nat} (hi : i < n) (hj : j < n) : get2 ((List.range n).map fun i => (List.range n).map fun j => f i j) i j = f i j := by
  unfold get2
  have e : ((List.range n).map fun i => (List.range n).map fun j => f i j).getD i [] = (List.range n).map fun j => f i j := by
    rw [List.getD_eq_getElem?_getD, List.getElem?_map, range_get hi]; rfl
  rw [e, List.getD_eq_getElem?_getD, List.getElem?_map, range_get hj]
  rfl
theorem low_start {b : Book} (G : Good b) {g : Nat} (hg : g < b.m) : Low b g (laidRows b g) := by
  refine ⟨rows_shape _ _, fun i hi => ?_, fun i j hp => ?_, fun i j hp => ?_⟩
  · unfold laidRows; rw [rows_get hi hi]; exact G.diag i g hi hg
  · unfold laidRows; rw [rows_get hp.1 hp.2.1]; exact Nat.le_refl _
  · unfold laidRows; rw [rows_get hp.1 hp.2.1]; exact ⟨(i, j), hangs.refl b _, rfl⟩
end Mf

set_option Elab.async false
set_option linter.all false
set_option maxRecDepth 100000
namespace L2
open PySem PySem.Spec PyProof.Rows
/-! ### a def as its callers know it -/
structure Callee (P : Program) (w : World) (K : PySem.W.Frag) (mg : Str → Option Value) (base : Heap) (x : Str) (k : Nat) (ps : List Str) (sp : Sp) : Prop where
  ex : ∃ f fd, mg x = some (.ref f) ∧ PySem.W.keepIn K (.ref f) = true ∧ Binds K fd ps [] ∧ FnOk P w K mg base CX0 k f fd ps sp
structure CalleeM (P : Program) (w : World) (K : PySem.W.Frag) (mg : Str → Option Value) (base : Heap) (C : Addr) (m : Str) (k : Nat) (ps : List Str) (sp : Sp) : Prop where
  ex : ∃ f fd, Meth K C m f ∧ Binds K fd ps [] ∧ FnOk P w K mg base CX0 k f fd ps sp
structure CalleeI (P : Program) (w : World) (K : PySem.W.Frag) (mg : Str → Option Value) (base : Heap) (x : Str) (C : Addr) (k : Nat) (ps : List Str) (sp : Sp) : Prop where
  ex : ∃ f fd, mg x = some (.ref C) ∧ Mk K C f ∧ Binds K fd ps [] ∧ FnOk P w K mg base CX0 k f fd ps sp
section
variable {X : Cx} {k k' : Nat} {C : Addr} {ps : List Str} {sp : Sp} {x m : Str} {p pos apos : Pos} {e o : Expr} {es : List Expr} {ta : TE} {t : TA}
theorem pe_callC (c : Callee X.prog X.w X.K X.mg X.base x k ps sp) (hr : Room k' X.A) (hg : Gl X x) (ha : PA X (e :: es) t) (hk : k ≤ k' := by decide) (hdb : (x == ("__debug__" : Str)) = false := by decide)
    (he : starEach (e :: es) X.env = (false, eval e X.env) :: starEach es X.env := by rfl) (hpl : (backTo pos (starEach es X.env)).any (·.1) = false := by rfl) :
    PE X (.Call (.Name x p) (e :: es) [] pos) (tCall sp [] E0 t) := by
  obtain ⟨f, fd, h1, h2, h3, h4⟩ := c.ex
  exact pe_call h4 (hr.mono hk) hg h1 h2 h3 .nil pass0 ha hdb he hpl
theorem pe_makeC (c : CalleeI X.prog X.w X.K X.mg X.base x C k ps sp) (hr : Room k' X.A) (hg : Gl X x) (ha : PA X (e :: es) t) (hk : k + 1 ≤ k' := by decide) (hdb : (x == ("__debug__" : Str)) = false := by decide)
    (he : starEach (e :: es) X.env = (false, eval e X.env) :: starEach es X.env := by rfl) (hpl : (backTo pos (starEach es X.env)).any (·.1) = false := by rfl) :
    PE X (.Call (.Name x p) (e :: es) [] pos) (tMake C sp [] E0 t) := by
  obtain ⟨f, fd, h1, h2, h3, h4⟩ := c.ex
  exact pe_make h2 h4 (hr.mono hk) hg h1 h3 .nil pass0 ha hdb he hpl
theorem pe_makeC0 (c : CalleeI X.prog X.w X.K X.mg X.base x C k ps sp) (hr : Room k' X.A) (hg : Gl X x) (hk : k + 1 ≤ k' := by decide) (hdb : (x == ("__debug__" : Str)) = false := by decide) :
    PE X (.Call (.Name x p) [] [] pos) (tMake C sp [] E0 tNil) := by
  obtain ⟨f, fd, h1, h2, h3, h4⟩ := c.ex
  exact pe_make0 h2 h4 (hr.mono hk) hg h1 h3 .nil pass0 hdb
theorem pe_methC {pl : Sem Bool} (he : PE X o ta) (cl : Cls X.K C) (c : CalleeM X.prog X.w X.K X.mg X.base C m k ps sp) (hr : Room k' X.A) (ha : PA X (e :: es) t) (hk : k ≤ k' := by decide)
    (hst : starEach (e :: es) X.env = (false, eval e X.env) :: starEach es X.env := by rfl) (hpl : (backTo pos (starEach es X.env)).any (·.1) = false := by rfl)
    (ht : eval (.Call (.Attribute o m apos) (e :: es) [] pos) X.env = (do
      let ov ← eval o X.env
      standAt apos.atName
      let (f, first) ← holding [ov] (getMethod ov m pl)
      callWith pos f first (backTo pos (starEach (e :: es) X.env)) (backToKw pos (keywordEach [] X.env))) := by rfl) :
    PE X (.Call (.Attribute o m apos) (e :: es) [] pos) (tMeth C m sp [] E0 ta t) := by
  obtain ⟨f, fd, h1, h3, h4⟩ := c.ex
  exact pe_meth he cl h1 h4 (hr.mono hk) h3 .nil pass0 ha hst hpl ht
theorem pe_methC0 {pl : Sem Bool} (he : PE X o ta) (cl : Cls X.K C) (c : CalleeM X.prog X.w X.K X.mg X.base C m k ps sp) (hr : Room k' X.A) (hk : k ≤ k' := by decide)
    (ht : eval (.Call (.Attribute o m apos) [] [] pos) X.env = (do
      let ov ← eval o X.env
      standAt apos.atName
      let (f, first) ← holding [ov] (getMethod ov m pl)
      callWith pos f first (backTo pos (starEach [] X.env)) (backToKw pos (keywordEach [] X.env))) := by rfl) :
    PE X (.Call (.Attribute o m apos) [] [] pos) (tMeth C m sp [] E0 ta tNil) := by
  obtain ⟨f, fd, h1, h3, h4⟩ := c.ex
  exact pe_meth0 he cl h1 h4 (hr.mono hk) h3 .nil pass0 ht
/-- a whole number of the module's top -/
theorem pe_gi {i : Int} (hg : Gl X x) (hm : ∃ t, X.mg x = some (.int i t)) (hd : (x == ("__debug__" : Str)) = false := by decide) : PE X (.Name x pos) (tC (.int i)) := by
  obtain ⟨t, h⟩ := hm
  exact pe_glob hg h ⟨t, rfl⟩ hd
theorem pe_gr {a : Addr} (hg : Gl X x) (hm : X.mg x = some (.ref a)) (hd : (x == ("__debug__" : Str)) = false := by decide) : PE X (.Name x pos) (tC (.ref a)) :=
  pe_glob hg hm rfl hd
/-! ### rules for a comprehension's block: the written part named -/
section
variable {K : PySem.W.Frag} {a b : Expr} {tb : TE}
theorem call_list_ofK (hK : X.K = K) : CallR X (.type "list") (fun xs H Q => ∃ p ys, xs = [.ref p] ∧ (SqL K H p ys ∨ SqT K H p ys) ∧ ∀ l, H l = none → Q (.ref l) (upd H l (.lst ys))) := by
  subst hK; exact call_list_of
theorem op_neDK (hK : X.K = K) (hu : X.A.units + 64 < cLine) : OpR X (compareOp .NotEq) (rNeD K) := by
  subst hK; exact op_neD hu
theorem ix_listK (hK : X.K = K) : IxR X (rIxL K) := by
  subst hK; exact ix_list
theorem ix_tupK (hK : X.K = K) : IxR X (rIxT K) := by
  subst hK; exact ix_tup
theorem pe_fldK {f : Str} (hK : X.K = K) (ha : PE X e ta) (hb : attributeBase e f X.env (eval e X.env) = eval e X.env) : PE X (.Attribute e f pos) (tFld K ta f) := by
  subst hK; exact pe_fld ha hb
end
/-! ### in, by data -/
def rInD (K : PySem.W.Frag) (neg : Bool) : R2 := fun x y H Q => ∃ d xs, Dp K H x d ∧ Dp K H y (.list xs) ∧ SeqAt.shaped d = true ∧ SeqAt.shaped (.list xs) = true ∧ Q (.bl (if neg then !xs.any (fun z => PyData.eqv z d) else xs.any (fun z => PyData.eqv z d))) H
theorem room_in {A : Around} {d : PyData} {xs : List PyData} (hd : SeqAt.shaped d = true) (hu : A.units + 100 < cLine) : A.units + 1 + min (PyData.depthAll xs) d.depth < cLine := by
  have h1 := SeqAt.depth_of_shaped hd
  have h2 : min (PyData.depthAll xs) d.depth ≤ d.depth := Nat.min_le_right _ _
  omega
theorem op_inD (hu : X.A.units + 100 < cLine) : OpR X (compareOp .In) (rInD X.K false) := by
  intro pins s σ H x y v u Q I rx ry h
  obtain ⟨d, xs, hd, he, sd, se, q⟩ := h
  obtain ⟨as, r1⟩ := Dp.reads I d x v hd rx
  obtain ⟨bs, r2⟩ := Dp.reads I (.list xs) y u he ry
  have hl : PyData.canLayAll0 xs = true := SeqAt.canLay_of_shaped se
  exact SeqAt.in_list_reads r2 r1 hl (SeqAt.canLay_of_shaped sd) (room_in sd hu) ⟨.bl _, H, I, rfl, q⟩
end
theorem hu64 {A : Around} {k : Nat} (hr : Room k A) : A.units + 64 < cLine := hr.units
theorem hu100 {A : Around} {k : Nat} (hr : Room k A) : A.units + 100 < cLine := by have := hr.un; omega
end L2

namespace L2
open PySem PySem.Spec PyProof.Rows
/-! ### d.setdefault(k, x) of a dict with tuple keys -/
section
variable {prog : Program} {w : World} {κ : Type} [DecidableEq κ] {knd : HeapKind prog w κ} {A : Around} {E : Value → Shared → Prop} {s : Shared}
theorem setDefH {d a : Addr} {xs : List (κ × Addr × Value)} {k : κ} {z : Value} {Q : Value → Shared → Prop} (hu : knd.room A) (hkey : knd.is s.heap k a) (hm : s.heap.DictOfH knd d xs) (hsz : xs.length ≤ sizeLine)
    (h1 : ∀ v, (atKey xs k).map (·.2) = some v → Q v { s with toks := s.toks + knd.draws k })
    (h2 : atKey xs k = none → ∀ h', h'.DictOfH knd d (storedH xs k a z) → Heap.SameBut d s.heap h' → Q z { s with heap := h', toks := s.toks + knd.draws k }) :
    wpAny (model prog w) A (dictSetDefault d (.ref a) z) Q E s := by
  obtain ⟨o, es, ep, ho, hc, hd, he, his, hn⟩ := hm
  unfold dictSetDefault
  (try with_reducible refine wpAny_holding ?_); refine wpAny_bind (knd.pyHash hu hkey (wpAny_bind (wpAny_dictFind_heap (s := { s with toks := s.toks + knd.draws k }) hu hkey ho hd he his hn (fun hno => ?_) (fun j p hj => ?_))))
  · have hnot : k ∉ xs.map (·.1) := not_mem_keys_of_get hno; have h2 := h2 (atKey_none_of_get hno)
    refine wpAny_bind (wpAny_rule (wpAny_bind (wpAny_updateDictKeys (hz := by have e := size_of_entries he; omega) (s := { s with toks := s.toks + knd.draws k }) ho hd (wpAny_pure (h2 _ ⟨_, _, ep + 1, Heap.get?_update_self _ ho (Obj.isFreed_of_dict (Obj.data_mapDictKeys hd _)), hc.mapDictKeys _, Obj.data_mapDictKeys hd _, ?_, ?_, ?_⟩ (Heap.SameBut.update ..))))))
    · rw [storedH_new (atKey_none_of_get hno)]; simp [he, entryOfKey]
    · rw [storedH_new (atKey_none_of_get hno)]; intro x hx
      rcases List.mem_append.mp hx with hx | hx
      · exact knd.keeps (his x hx) ho hd (Heap.SameBut.update ..)
      · simp only [List.mem_singleton] at hx; subst hx; exact knd.keeps hkey ho hd (Heap.SameBut.update ..)
    · rw [storedH_new (atKey_none_of_get hno), List.map_append, List.nodup_append]
      refine ⟨hn, by simp, fun x hx y hy => ?_⟩
      simp only [List.map_cons, List.map_nil, List.mem_singleton] at hy; subst hy; exact fun e => hnot (e ▸ hx)
  · have h1 := h1 p.2 (by rw [atKey_of_get hn hj]; rfl)
    refine wpAny_bind (wpAny_dictEntries (s := { s with toks := s.toks + knd.draws k }) ho hd ?_); rw [entry_at he j, hj]
    exact wpAny_bind (wpAny_rule (wpAny_pure h1))
theorem meetsSetDefH (knd : HeapKind prog w κ) (d a : Addr) (hd : (d == sysModules) = false) (z : Value) :
    MeetsIn prog w (Builtin.«dict.setdefault» ⟨[.ref d, .ref a, z], []⟩) (fun A R s => knd.room A.in1 ∧ ∃ k xs, knd.is s.heap k a ∧ s.heap.DictOfH knd d xs ∧ xs.length ≤ sizeLine ∧
      (∀ v, (atKey xs k).map (·.2) = some v → R (.ok (.ret v)) { s with toks := s.toks + knd.draws k }) ∧
      (atKey xs k = none → ∀ h', h'.DictOfH knd d (storedH xs k a z) → Heap.SameBut d s.heap h' → R (.ok (.ret z)) { s with heap := h', toks := s.toks + knd.draws k })) :=
  .of_wp fun A R s ⟨hu, k, xs, hkey, hm, hz, h1, h2⟩ => by
    unfold Builtin.«dict.setdefault»
    refine wpAny_bind (by
      unfold Builtin.Dict.keyAndDefault
      refine wpAny_bind (wpAny_notOrdered_dict hm.typeIs (by
        show wpAny _ _ (pure (d, Value.ref a, some z)) _ _ s; exact wpAny_pure (by
          show wpAny _ _ (if (d == sysModules) = true then _ else (dictSetDefault d (.ref a) z >>= _)) _ _ s; rw [if_neg (by rw [hd]; exact Bool.false_ne_true)]
          exact wpAny_bind (setDefH hu hkey hm hz (fun v hv => wpAny_pure ⟨v, rfl, h1 v hv⟩) fun hn h' hm' hs' => wpAny_pure ⟨z, rfl, h2 hn h' hm' hs'⟩)))))
end
def tDSetDef (td ty tx : TE) : TE := fun σ H Q => td σ H fun x H1 => ∃ a, x = .ref a ∧ IsD H1 a ∧ ty σ H1 fun y H2 => tx σ H2 fun z H3 => ∃ kvs k b, H3 a = some (.dT kvs) ∧ y = .ref b ∧ H3 b = some (.tup (k.map kV)) ∧ kvs.length < sizeLine ∧
  (∀ v, valV kvs k = some v → Q v H3) ∧ (valV kvs k = none → Q z (upd H3 a (.dT (putK kvs k z))))
section
variable {X : Cx} {o e f : Expr} {apos cpos : Pos} {td ty tx : TE}
theorem pe_dsetdef (hu : X.A.units + 1 < cLine) (ho : PE X o td) (he : PE X e ty) (hf : PE X f tx) (m : M2 X o "setdefault" apos e f cpos) : PE X (.Call (.Attribute o "setdefault" apos) [e, f] [] cpos) (tDSetDef td ty tx) := by
  intro pins s σ H Q I h
  refine wpAny_Call_method m.base m.few m.line PySem.F.plainAttrs_dict PySem.F.slot_dict_setdefault PySem.F.type_dict_setdefault (thn (ho pins s σ H _ I h) fun u s1 ⟨x, H1, I1, rx, a, ex, d, q1⟩ => ?_)
  subst ex
  obtain rfl : u = Value.ref a := rx
  obtain ⟨t1, t2, _⟩ := isD_at I1 d
  refine ⟨t1, t2, ?_⟩
  rw [m.trees]
  refine Calls.callWith_builtin rfl (Calls.evalArgs_plain (Calls.spliced_cons (thn (he pins s1 σ H1 _ I1 q1) fun iv s2 ⟨y, H2, I2, ry, q2⟩ =>
    Calls.spliced_cons (thn (hf pins s2 σ H2 _ I2 q2) fun fv s3 ⟨z, H3, I3, rz, kvs, k, b, ea, ey, eb, hl, q3, q4⟩ => Calls.spliced_nil ?_))))
  subst ey
  cases (show iv = Value.ref b from ry)
  obtain ⟨hz, hd, xs, rel, dd⟩ := dt_of I3.hok ea
  have hx : xs.length ≤ sizeLine := by rw [← Paired.length rel]; exact hz
  have rv := rel.val k
  refine call_meetsIn PySem.F.slot_dict_setdefault dd.typeIs PySem.F.entry_dict_setdefault (PySem.F.args_dict_setdefault_3 _ _ _) (meetsSetDefH (tupleKind (mixKind X.prog X.w)) a b hd fv) ⟨tupleKind_room_in1 hu, k, xs, key_of I3.hok eb, dd, hx, fun v' hv => ?_, fun hn h' dd' hs => ?_⟩
  · rw [hv] at rv
    cases e : valV kvs k with
    | none => rw [e] at rv; exact absurd rv id
    | some v => rw [e] at rv; exact ⟨v, H3, I3.tok _, rv, q3 v e⟩
  · rw [hn] at rv
    cases e : valV kvs k with
    | some v => rw [e] at rv; exact absurd rv id
    | none =>
      refine ⟨z, _, ?_, rz, q4 e⟩
      have hl' : (putK kvs k z).length ≤ sizeLine := by have := length_putK kvs k z; omega
      obtain ⟨q, es, ep, hq, h2, h3, h4, _, h5⟩ := dd'
      refine d_write I3 (by rw [ea]; exact True.intro) hs ⟨q, hq⟩ ⟨hl', hd, _, (rel.put k eb rz).keeps fun c ys ec => ?_, q, es, ep, hq, h2, h3, h4, h5⟩
      rw [upd_ne (ne_of ec ea (fun z => nomatch z))]
      exact ec
end
/-! ### {k: v} with a tuple key -/
def tDisp1T (tk tv : TE) : TE := fun σ H Q => ∀ p, H p = none → tk σ (upd H p (.dT [])) fun y H1 => tv σ H1 fun v H2 => ∃ k b, H2 p = some (.dT []) ∧ y = .ref b ∧ H2 b = some (.tup (k.map kV)) ∧ Q (.ref p) (upd H2 p (.dT [(k, v)]))
theorem pe_disp1T {X : Cx} {pos : Pos} {ke ve : Expr} {tk tv : TE} (hu : X.A.units < cLine) (hk : PE X ke tk) (hv : PE X ve tv) : PE X (.Dict [some ke] [ve] pos) (tDisp1T tk tv) := by
  intro pins s σ H Q I q
  have hn := I.hok.fresh (Nat.le_refl s.heap.objs.size)
  have I1 := I.laid (a := s.heap.objs.size) (o := .dT []) (h' := s.heap.push { cls := .type "dict", data := .dict #[] }) (t' := s.toks) (fun _ _ q => Heap.get?_push_of_some _ q) (Nat.le_refl _) (dt_empty s.heap I.big)
  refine PySem.wpAny_Dict_any rfl rfl (by simp) (show 1 ≤ 15 by decide) (pairTrees_cons_walk (thn (hk pins _ σ _ _ I1 (q _ hn)) fun u s1 ⟨y, H1, I2, ry, q1⟩ => thn (hv pins s1 σ H1 _ I2 q1) fun r s2 ⟨v, H2, I3, rv, k, b, ep, ey, eb, q2⟩ => pairTrees_nil_walk ?_))
  subst ey
  cases (show u = Value.ref b from ry)
  obtain ⟨hz, hd, xs, rel, dd⟩ := dt_of I3.hok ep
  cases rel
  unfold PySem.storeAll
  simp only [List.forIn_cons, List.forIn_nil]
  refine wpAny_bind (wpAny_bind (wpAny_dictSet_heap (knd := tupleKind (mixKind X.prog X.w)) hu (key_of I3.hok eb) dd (fun h' dd' hs => wpAny_pure (wpAny_pure ⟨.ref s.heap.objs.size, _, ?_, rfl, q2⟩)) (by simp)))
  obtain ⟨q', es, ep', hq, h2, h3, h4, _, h5⟩ := dd'
  refine d_write I3 (by rw [ep]; exact True.intro) hs ⟨q', hq⟩ ⟨by simp [sizeLine_eq], hd, _, (KT.put (.nil) k eb rv).keeps fun c ys ec => ?_, q', es, ep', hq, h2, h3, h4, h5⟩
  rw [upd_ne (ne_of ec ep (fun z => nomatch z))]
  exact ec
end L2

namespace L2
open PySem PySem.Spec PyProof.Rows
/-! ### min of a list of things of the heap -/
/-- how two of them compare, wherever they stand as they are -/
def CmpIn (prog : Program) (w : World) (A : Around) (P : Nat → Value → Prop) (bt : Nat → Nat → Bool) (Fh : Heap → Prop) : Prop :=
  ∀ i j vi vj (s : Shared) (Q E : Value → Shared → Prop), Fh s.heap → P i vi → P j vj → Q (.bool (bt i j)) s → wpAny (model prog w) A (richCompare .Lt vi vj) Q E s
section
variable {prog : Program} {w : World} {A : Around} {R : Result → Shared → Prop} {I : Addr} {fp wr : List Addr} {n : Nat} {P : Nat → Value → Prop} {St : Nat → Heap → Prop} {Fh : Heap → Prop}
theorem minLoopH (W : Walks prog w A.in1 I fp wr n P St) (bt : Nat → Nat → Bool) (S : Addr) (hSf : S ∉ fp) (hcmp : CmpIn prog w A.in1 P bt Fh) (hF : ∀ h h', Fh h → (∀ b o, b ∉ wr → b ≠ S → h.get? b = some o → h'.get? b = some o) → Fh h') :
    ∀ (k j : Nat) (s : Shared) (vb : Value) (c : Nat), Fh s.heap → n - (j + 1) = k → j + 1 ≤ n → St (j + 1) s.heap → P (argBest bt j) vb → s.heap.get? S = some { cls := .type "list", dict := none, data := .seq #[vb, vb] c, slots := #[] } →
    (∀ v h' tk, P (argBest bt (n - 1)) v → (∀ b o, b ∉ wr → b ≠ S → s.heap.get? b = some o → h'.get? b = some o) → R (.ok (.ret v)) { s with heap := h', toks := tk }) → codeAny (model prog w) A (.builtin "min.loop" ⟨[.ref I, .none, .ref S], []⟩) R s := by
  have hSw : S ∉ wr := fun h => hSf (W.sub _ h)
  have hname : (toString "min" ++ toString ".loop" : String) = "min.loop" := by decide
  intro k
  induction k with
  | zero =>
    intro j s vb c f0 hk hj hst hPb hS hR; have hin : j + 1 = n := by omega
    refine codeAny_builtin F.entry_min_loop ?_; rw [Around.under_plainId F.plain_min_loop _]
    show wpAny _ A.in1 (seqItems? (.ref S) >>= _) _ _ s; refine wpAny_bind (wpAny_seqItems hS rfl ?_)
    show wpAny _ A.in1 (tryCatch (pyNext (.ref I)) _ >>= _) _ _ s; refine wpAny_bind (wpAny_tryCatch (W.done s _ _ (hin ▸ hst) fun h' tk hk' => ?_))
    have hS' := hk' S _ hSw hS; show wpAny _ A.in1 (updateSeq S (fun _ => #[]) >>= _) _ _ _
    refine wpAny_bind (wpAny_updateSeq hS' rfl (wpAny_bind (wpAny_letGo (wpAny_pure ?_))))
    exact hR vb _ tk (by rw [← hin]; exact hPb) fun b o hbw hbS e => (Heap.get?_update_other _ _ (Ne.symm hbS)).trans (hk' b o hbw e)
  | succ k ih =>
    intro j s vb c f0 hk hj hst hPb hS hR; have hlt : j + 1 < n := by omega
    refine codeAny_builtin F.entry_min_loop ?_; rw [Around.under_plainId F.plain_min_loop _]
    show wpAny _ A.in1 (seqItems? (.ref S) >>= _) _ _ s; refine wpAny_bind (wpAny_seqItems hS rfl ?_)
    show wpAny _ A.in1 (tryCatch (pyNext (.ref I)) _ >>= _) _ _ s; refine wpAny_bind (wpAny_tryCatch (W.item (j + 1) s _ _ hlt hst fun v h' tk hP hst' hk' => ?_))
    have hS' := hk' S _ hSw hS; have f1 : Fh h' := hF _ _ f0 fun b o hb _ e => hk' b o hb e
    show wpAny _ A.in1 (tryCatch (holding [v, v] (richCompare .Lt v vb >>= _)) _ >>= _) _ _ _; refine wpAny_bind (wpAny_tryCatch (wpAny_holding (wpAny_bind (hcmp (j + 1) (argBest bt j) v vb _ _ _ f1 hP hPb ?_))))
    refine wpAny_bind (wpAny_holding (wpAny_truthy_bool ?_)); refine wpAny_bind (wpAny_letGo (wpAny_pure ?_))
    cases hb : bt (j + 1) (argBest bt j) with
    | true =>
      simp only [if_true]; refine wpAny_bind (wpAny_updateSeq hS' rfl (wpAny_bind (wpAny_letGo ?_))); rw [hname]
      refine wpAny_pure ⟨plainId_quiet F.plain_min_loop _, ih (j + 1) _ v _ (hF _ _ f1 fun b o _ hbS e => (Heap.get?_update_other _ _ (Ne.symm hbS)).trans e) (by omega) hlt (W.frame _ _ _ hst' fun b hbf o e => ?_) (by simp only [argBest, hb, if_true]; exact hP) (Heap.get?_update_self _ hS' rfl) fun v' h'' tk'' hP' hk'' => ?_⟩
      · exact (Heap.get?_update_other _ _ (fun h : S = b => hSf (by rw [h]; exact hbf))).trans e
      · exact hR v' h'' tk'' hP' fun b o hbw hbS e => hk'' b o hbw hbS ((Heap.get?_update_other _ _ (Ne.symm hbS)).trans (hk' b o hbw e))
    | false =>
      simp only [Bool.false_eq_true, if_false]; refine wpAny_bind (wpAny_letGo ?_); rw [hname]
      refine wpAny_pure ⟨plainId_quiet F.plain_min_loop _, ih (j + 1) _ vb c f1 (by omega) hlt hst' (by simp only [argBest, hb, Bool.false_eq_true, if_false]; exact hPb) hS' fun v' h'' tk'' hP' hk'' => ?_⟩
      exact hR v' h'' tk'' hP' fun b o hbw hbS e => hk'' b o hbw hbS (hk' b o hbw e)
theorem minFirstH (W : Walks prog w A.in1 I fp wr n P St) (bt : Nat → Nat → Bool) (S : Addr) (hSf : S ∉ fp) (hcmp : CmpIn prog w A.in1 P bt Fh) (hF : ∀ h h', Fh h → (∀ b o, b ∉ wr → b ≠ S → h.get? b = some o → h'.get? b = some o) → Fh h') (hn : 0 < n) {s : Shared} {c : Nat} (f0 : Fh s.heap) (hst : St 0 s.heap)
    (hS : s.heap.get? S = some { cls := .type "list", dict := none, data := .seq #[] c, slots := #[] }) (hR : ∀ v h' tk, P (argBest bt (n - 1)) v → (∀ b o, b ∉ wr → b ≠ S → s.heap.get? b = some o → h'.get? b = some o) → R (.ok (.ret v)) { s with heap := h', toks := tk }) :
    codeAny (model prog w) A (.builtin "min.loop" ⟨[.ref I, .none, .ref S], []⟩) R s := by
  have hSw : S ∉ wr := fun h => hSf (W.sub _ h)
  have hname : (toString "min" ++ toString ".loop" : String) = "min.loop" := by decide
  refine codeAny_builtin F.entry_min_loop ?_; rw [Around.under_plainId F.plain_min_loop _]
  show wpAny _ A.in1 (seqItems? (.ref S) >>= _) _ _ s; refine wpAny_bind (wpAny_seqItems hS rfl ?_)
  show wpAny _ A.in1 (tryCatch (pyNext (.ref I)) _ >>= _) _ _ s; refine wpAny_bind (wpAny_tryCatch (W.item 0 s _ _ hn hst fun v h' tk hP hst' hk' => ?_))
  have hS' := hk' S _ hSw hS; have f1 : Fh h' := hF _ _ f0 fun b o hb _ e => hk' b o hb e
  show wpAny _ A.in1 (updateSeq S (fun _ => #[v, v]) >>= _) _ _ _; refine wpAny_bind (wpAny_updateSeq hS' rfl ?_); rw [hname]
  refine wpAny_pure ⟨plainId_quiet F.plain_min_loop _, minLoopH W bt S hSf hcmp hF _ 0 _ v _ (hF _ _ f1 fun b o _ hbS e => (Heap.get?_update_other _ _ (Ne.symm hbS)).trans e) rfl hn (W.frame _ _ _ hst' fun b hbf o e => ?_) hP (Heap.get?_update_self _ hS' rfl) fun v' h'' tk'' hP' hk'' => ?_⟩
  · exact (Heap.get?_update_other _ _ (fun h : S = b => hSf (by rw [h]; exact hbf))).trans e
  · exact hR v' h'' tk'' hP' fun b o hbw hbS e => hk'' b o hbw hbS ((Heap.get?_update_other _ _ (Ne.symm hbS)).trans (hk' b o hbw e))
end
section
variable {prog : Program} {w : World} {A : Around} {E : Value → Shared → Prop} {s : Shared}
theorem callMinH {x : Value} {Q : Value → Shared → Prop}
    (h : wpAny (model prog w) A.in1 (pyIter x) (fun it s₂ => ∃ I fp wr n P St bt Fh, it = .ref I ∧ Walks prog w A.in1 I fp wr n P St ∧ St 0 s₂.heap ∧ (∀ b ∈ fp, b < s₂.heap.objs.size) ∧ 0 < n ∧ CmpIn prog w A.in1 P bt Fh ∧ Fh s₂.heap ∧
      (∀ S, s₂.heap.objs.size ≤ S → ∀ h h', Fh h → (∀ b o, b ∉ wr → b ≠ S → h.get? b = some o → h'.get? b = some o) → Fh h') ∧
      ∀ v h' tk, P (argBest bt (n - 1)) v → (∀ b o, b ∉ wr → s₂.heap.get? b = some o → h'.get? b = some o) → Q v { s₂ with heap := h', toks := tk }) E s) : wpAny (model prog w) A (call (.builtin "min") [x]) Q E s := by
  have hname : (toString "min" ++ toString ".loop" : String) = "min.loop" := by decide
  refine call_function_tree F.kind_min F.plain_min F.entry_min (F.args_min1 _) ?_; show wpAny _ A.in1 (Builtin.Builtins.bindParams "min" ["key", "default"] 0 ⟨[], []⟩ >>= _) _ _ s
  refine wpAny_bind (wpAny_of_eq (show Builtin.Builtins.bindParams "min" ["key", "default"] 0 ⟨[], []⟩ = pure [none, none] from rfl) (wpAny_bind (wpAny_pure (wpAny_bind (wpAny_mono h (fun it s₂ h₂ => ?_) fun _ _ e => e)))))
  obtain ⟨I, fp, wr, n, P, St, bt, Fh, rfl, W, hst, hfp, hn, hcmp, f0, hF, hQ⟩ := h₂
  have hSf : s₂.heap.objs.size ∉ fp := fun hm => Nat.lt_irrefl _ (hfp _ hm); refine wpAny_bind (wpAny_newObj_type ?_); rw [hname]
  refine wpAny_pure ⟨plainId_quiet F.plain_min_loop _, minFirstH W bt s₂.heap.objs.size hSf hcmp (hF _ (Nat.le_refl _)) hn (hF _ (Nat.le_refl _) _ _ f0 fun b o _ _ e => Heap.get?_push_of_some _ e) (W.frame _ _ _ hst fun b _ o e => Heap.get?_push_of_some _ e) (Heap.get?_push_size _ rfl) fun v h' tk hP hk => ?_⟩
  exact hQ v h' tk hP fun b o hbw e => hk b o hbw (Nat.ne_of_lt (Heap.lt_size e)) (Heap.get?_push_of_some _ e)
end
/-! ### the least of tuples -/
theorem lexLt_irr : ∀ a : List Int, HT.lexLt a a = false
  | [] => rfl
  | x :: a => by rw [HT.lexLt_cons, if_pos rfl]; exact lexLt_irr a
theorem lexLt_trans : ∀ {a b c : List Int}, HT.lexLt a b = true → HT.lexLt b c = true → HT.lexLt a c = true
  | [], [], _, h, _ => by cases h
  | [], _ :: _, [], _, h => by cases h
  | [], _ :: _, _ :: _, _, _ => rfl
  | _ :: _, [], _, h, _ => by cases h
  | _ :: _, _ :: _, [], _, h => by cases h
  | x :: a, y :: b, z :: c, h1, h2 => by
    rw [HT.lexLt_cons] at h1 h2 ⊢
    by_cases e1 : x = y
    · subst e1
      rw [if_pos rfl] at h1
      by_cases e2 : x = z
      · rw [if_pos e2] at h2 ⊢; exact lexLt_trans h1 h2
      · rw [if_neg e2] at h2 ⊢; exact h2
    · rw [if_neg e1] at h1
      have h1 := of_decide_eq_true h1
      by_cases e2 : y = z
      · subst e2; rw [if_neg e1]; exact decide_eq_true h1
      · rw [if_neg e2] at h2
        have h2 := of_decide_eq_true h2
        rw [if_neg (by omega)]; exact decide_eq_true (by omega)
theorem best_lex (f : Nat → List Int) : ∀ k, argBest (fun i j => HT.lexLt (f i) (f j)) k ≤ k ∧ ∀ j, j ≤ k → HT.lexLt (f j) (f (argBest (fun i j => HT.lexLt (f i) (f j)) k)) = false
  | 0 => ⟨Nat.le_refl _, fun j hj => by have : j = 0 := by omega
                                        subst this; exact lexLt_irr _⟩
  | k + 1 => by
    obtain ⟨h1, h2⟩ := best_lex f k
    simp only [argBest]
    by_cases e : HT.lexLt (f (k + 1)) (f (argBest (fun i j => HT.lexLt (f i) (f j)) k)) = true
    · simp only [if_pos e]
      refine ⟨Nat.le_refl _, fun j hj => ?_⟩
      by_cases z : j = k + 1
      · subst z; exact lexLt_irr _
      · cases e2 : HT.lexLt (f j) (f (k + 1)) with
        | false => rfl
        | true => have := lexLt_trans e2 e; rw [h2 j (by omega)] at this; cases this
    · simp only [if_neg e]
      refine ⟨by omega, fun j hj => ?_⟩
      by_cases z : j = k + 1
      · subst z; simpa using e
      · exact h2 j (by omega)
def rMinT (K : PySem.W.Frag) : List V → Hp → VK → Prop := fun vs H Q => ∃ (a : Addr) (ts : List (Addr × List Int)), vs = [V.ref a] ∧ SqL K H a (ts.map fun t => V.ref t.1) ∧ (∀ t ∈ ts, H t.1 = some (.tup (t.2.map V.int))) ∧ 0 < ts.length ∧
  ∀ m, m ∈ ts → (∀ y, y ∈ ts → HT.lexLt y.2 m.2 = false) → Q (.ref m.1) H
theorem cr_minT {X : Cx} (hc : X.calm = true) (hu : X.A.units + 1 < cLine) : CallR X (.builtin "min") (rMinT X.K) := by
  intro pins s σ H vs us Q I r h
  obtain ⟨a, ts, rfl, hs, ht, hne, q⟩ := h
  obtain ⟨its, rv, hl, _⟩ := I.list hs
  rw [Vals.ref1 r]
  have hN : ∀ t ∈ ts, t.1 < s.heap.objs.size ∧ ∃ items : Array Value, IsTup s.heap t.1 items ∧ IntsAre items.toList t.2 := fun t mt => by
    obtain ⟨_, its, r, o, h1, h2, n, h3⟩ := (show ObjOk X.prog X.w H s.heap t.1 (.tup (t.2.map V.int)) from I.hok t.1 _ (ht t mt))
    exact ⟨Heap.lt_size h1, its.toArray, ⟨o, h1, h2, n, h3⟩, by simpa using r.ints⟩
  have hlen : its.length = ts.length := by have := rv.length; rw [List.length_map] at this; exact this.symm
  have hit : ∀ (i : Nat) (v : Value), its.toArray[i]? = some v → ∃ t : Addr × List Int, ts[i]? = some t ∧ v = Value.ref t.1 := fun i v e => by
    rw [List.getElem?_toArray] at e
    have li : i < ts.length := by have := (List.getElem?_eq_some_iff.mp e).1; omega
    obtain ⟨u, hu', ru⟩ := rv.get (i := i) (x := V.ref (ts[i]).1) (by rw [List.getElem?_map, List.getElem?_eq_getElem li]; rfl)
    rw [e] at hu'
    cases hu'
    exact ⟨ts[i], List.getElem?_eq_getElem li, ru⟩
  refine callMinH (iter_any hl.isList fun s₂ e2 st hne' => ?_)
  have hsz : s₂.heap.objs.size = s.heap.objs.size + 1 := by subst e2; exact Heap.size_push ..
  refine ⟨_, _, _, _, _, _, (fun i j => HT.lexLt ((ts.map (·.2)).getD i []) ((ts.map (·.2)).getD j [])), fun h => ∀ t ∈ ts, ∃ items : Array Value, IsTup h t.1 items ∧ IntsAre items.toList t.2, rfl, Walks.list (A := X.A.in1) (I.ok.hd hc) _ a hne' its.toArray, st, ?_, ?_, ?_, ?_, ?_, ?_⟩
  · intro b hb
    simp only [List.mem_cons, List.not_mem_nil, or_false] at hb
    rcases hb with z | z
    · rw [z, hsz]; exact Nat.lt_succ_self _
    · rw [z, hsz]; obtain ⟨_, e, _⟩ := hl.isList; exact Nat.lt_succ_of_lt (Heap.lt_size e)
  · rw [List.size_toArray, hlen]; exact hne
  · intro i j vi vj s3 Q3 E3 f hi hj hq
    obtain ⟨t, et, rfl⟩ := hit i vi hi
    obtain ⟨u, eu, rfl⟩ := hit j vj hj
    obtain ⟨i1, a1, b1⟩ := f t (List.mem_of_getElem? et)
    obtain ⟨i2, a2, b2⟩ := f u (List.mem_of_getElem? eu)
    have z1 : (ts.map (·.2)).getD i [] = t.2 := by rw [List.getD_eq_getElem?_getD, List.getElem?_map, et]; rfl
    have z2 : (ts.map (·.2)).getD j [] = u.2 := by rw [List.getD_eq_getElem?_getD, List.getElem?_map, eu]; rfl
    have hq : Q3 (.bool (HT.lexLt t.2 u.2)) s3 := by rw [← z1, ← z2]; exact hq
    exact (HT.lt_tupInts a1 a2 b1 b2 hu hq : wpAny (model X.prog X.w) X.A.in1 (compareOp .Lt (.ref t.1) (.ref u.1)) Q3 E3 s3)
  · intro t mt
    obtain ⟨_, items, ⟨o, h1, h2, h3⟩, hi⟩ := hN t mt
    exact ⟨items, ⟨o, by subst e2; exact Heap.get?_push_of_some _ h1, h2, h3⟩, hi⟩
  · intro S hS h h' f kp t mt
    obtain ⟨items, ⟨o, h1, h2, h3⟩, hi⟩ := f t mt
    have lt := (hN t mt).1
    rw [hsz] at hS
    exact ⟨items, ⟨o, kp _ _ (fun z => Nat.ne_of_lt lt (List.mem_singleton.mp z)) (Nat.ne_of_lt (Nat.lt_of_lt_of_le (Nat.lt_succ_of_lt lt) hS)) h1, h2, h3⟩, hi⟩
  · intro v h' tk hP hk
    rw [List.size_toArray, hlen] at hP
    obtain ⟨b1, b2⟩ := best_lex (fun i => (ts.map (·.2)).getD i []) (ts.length - 1)
    obtain ⟨m, em, rfl⟩ := hit _ v hP
    refine ⟨.ref m.1, H, ?_, rfl, q m (List.mem_of_getElem? em) fun y hy => ?_⟩
    · subst e2
      exact I.kept fun b o eo => hk b o (fun hmem => by simp at hmem; exact absurd (hmem ▸ Heap.lt_size eo) (Nat.lt_irrefl _)) (Heap.get?_push_of_some _ eo)
    · obtain ⟨j, hj⟩ := List.getElem?_of_mem hy
      have lj : j < ts.length := (List.getElem?_eq_some_iff.mp hj).1
      have b3 := b2 j (by omega)
      have z1 : (ts.map (·.2)).getD j [] = y.2 := by rw [List.getD_eq_getElem?_getD, List.getElem?_map, hj]; rfl
      have z2 : (ts.map (·.2)).getD (argBest (fun i j => HT.lexLt ((ts.map (·.2)).getD i []) ((ts.map (·.2)).getD j [])) (ts.length - 1)) [] = m.2 := by rw [List.getD_eq_getElem?_getD, List.getElem?_map, em]; rfl
      rw [← z1, ← z2]; exact b3
/-! ### a comprehension over a dict's keys, tuples -/
theorem lc_keysT {d : Addr} {o : Obj} {kvs : List (List Key × V)} {g : TG} {tt : TT} {te : TE} {vs : List Nat} {σ : St} {H1 : Hp} {D : Addr} {Qd : Hp → Prop} (Pv : Nat → Hp → Prop) (h0 : Pv 0 (upd H1 D (.lst []))) (hl : ∀ i H, i ≤ kvs.length → Pv i H → H d = some (.frz o (.dT kvs)))
    (hs : ∀ i k v q H, kvs[i]? = some (k, v) → H q = some (.tup (k.map kV)) → Pv i H → g (.ref q) (wipe σ vs) H fun σ2 H2 => wipe σ2 vs = wipe σ vs ∧ tt σ2 H2 fun b H3 =>
      if b = true then te σ2 H3 fun y H4 => ∃ acc, H4 D = some (.lst acc) ∧ acc.length < sizeLine ∧ Pv (i + 1) (upd H4 D (.lst (acc ++ [y]))) else Pv (i + 1) H3) (hd : ∀ H, Pv kvs.length H → Qd H) :
    ∃ W : Nat → Nat → Hp → Prop, (∃ m, W 0 m (upd H1 D (.lst []))) ∧ ∀ i m H, W i m H →
      ((Itkt d o kvs).stop i H ∧ Qd H) ∨ ((Itkt d o kvs).go i H ∧ ∃ Nx : Hp → Prop, (∀ H', Nx H' → ∃ m', m' < m ∧ W (i + 1) m' H') ∧ ∀ x H', (Itkt d o kvs).yld i H x H' → g x (wipe σ vs) H' fun σ2 H2 => wipe σ2 vs = wipe σ vs ∧ tt σ2 H2 fun b H3 =>
        if b = true then te σ2 H3 fun y H4 => ∃ acc, H4 D = some (.lst acc) ∧ acc.length < sizeLine ∧ Nx (upd H4 D (.lst (acc ++ [y]))) else Nx H3) := by
  refine ⟨fun i m H => m = kvs.length - i ∧ i ≤ kvs.length ∧ Pv i H, ⟨kvs.length, by simp, Nat.zero_le _, h0⟩, ?_⟩
  rintro i m H ⟨rfl, hi, p⟩
  have q := hl i H hi p
  by_cases hlt : i < kvs.length
  · refine .inr ⟨⟨q, hlt⟩, Pv (i + 1), fun H' p' => ⟨kvs.length - (i + 1), by omega, rfl, hlt, p'⟩, fun x H' y => ?_⟩
    obtain ⟨e, k, v, q', e1, e2, e3⟩ := y
    subst e e2
    exact hs i k v q' _ e1 e3 p
  · have e : i = kvs.length := by omega
    subst e
    exact .inl ⟨⟨q, Nat.le_refl _⟩, hd H p⟩
end L2

namespace L2
open PySem PySem.Spec PyProof.Rows
/-- all but what stands at D -/
def era (H : Hp) (D : Addr) : Hp := fun b => if b = D then none else H b
theorem era_same {H : Hp} {D : Addr} : era H D D = none := by unfold era; rw [if_pos rfl]
theorem era_ne {H : Hp} {D b : Addr} (h : b ≠ D) : era H D b = H b := by unfold era; rw [if_neg h]
theorem era_some {H : Hp} {D b : Addr} {o : HO} (h : era H D b = some o) : b ≠ D ∧ H b = some o := by
  by_cases e : b = D
  · rw [e, era_same] at h; cases h
  · rw [era_ne e] at h; exact ⟨e, h⟩
theorem era_none {H : Hp} {D b : Addr} (h : H b = none) : era H D b = none := by
  by_cases e : b = D
  · rw [e, era_same]
  · rw [era_ne e]; exact h
/-- a promise that says nothing of a list leaves that list as it is -/
theorem FnOk.frame {P : Program} {w : World} {K : PySem.W.Frag} {mg : Str → Option Value} {base : Heap} {k : Nat} {f : Addr} {fd : FuncData} {ps : List Str} {sp : Sp} (F : FnOk P w K mg base CX0 k f fd ps sp) :
    FnOk P w K mg base CX0 k f fd ps (fun vs H Q E => ∃ D xs, H D = some (.lst xs) ∧ sp vs (era H D) (fun v H' => H' D = none → Q v (upd H' D (.lst xs))) E) := by
  refine ⟨fun vs H Q E ⟨D, xs, _, h⟩ => F.len _ _ _ _ h, fun A outer s H args us vs Q E hr he hb hv ⟨D, xs, hD, h⟩ => ?_⟩
  have hokE : HOk P w (era H D) s.heap := fun b o e => by
    obtain ⟨ne, e⟩ := era_some e
    refine (he.hok b o e).stay (fun c u _ q => q) (fun c q => ?_) (fun c ys q => ?_)
    · rw [era_ne (ne_of q hD (by intro z; cases z))]; exact q
    · rw [era_ne (ne_of q hD (by intro z; cases z))]; exact q
  have he' : Env0 P w K mg base A outer s (era H D) := ⟨he.frames, he.mod, fun b o e => ⟨(he.bs b o e).1, era_none (he.bs b o e).2⟩, he.bsz, he.funs, fun b hb => era_none (he.frf b hb), hokE, he.bare⟩
  refine codeAny_mono (F.run A outer s (era H D) args us vs _ E hr he' hb hv h) fun r s' hq => ?_
  cases r with
  | error e => exact hq
  | ok fl =>
    cases fl with
    | next => exact hq
    | brk => exact hq
    | cont => exact hq
    | ret u =>
      obtain ⟨v, H', os, bare, un, hok', rv, q⟩ := hq
      obtain ⟨hz, its, n, rx, eD⟩ := (show ObjOk P w H s.heap D (.lst xs) from he.hok D _ hD)
      have nfr : D ∉ frs outer := fun z => by rw [he.frf D z] at hD; cases hD
      have eD' : s'.heap.get? D = some { cls := .type "list", data := .seq its.toArray n } := un.keep D _ eD era_same nfr (by simp)
      have nD : H' D = none := un.free D _ eD era_same (by simp)
      have nH : ∀ b o, H b = none → s.heap.get? b = some o → b ≠ D := fun b o e _ z => by rw [z, hD] at e; cases e
      refine ⟨v, upd H' D (.lst xs), os, bare, ?_, ?_, rv, q nD⟩
      · exact {
          keep := fun b o e n hb hc => un.keep b o e (era_none n) hb hc
          slot := fun b o e n hb hc => un.slot b o e (era_none n) hb hc
          free := fun b o e n hc => by
            rw [upd_ne (nH b o n e)]; exact un.free b o e (era_none n) hc
          there := un.there
          tups := fun b ys e => by
            have ne : b ≠ D := ne_of e hD (by intro z; cases z)
            rw [upd_ne ne]; exact un.tups b ys (by rw [era_ne ne]; exact e)
          frzs := fun b o u e => by
            have ne : b ≠ D := ne_of e hD (by intro z; cases z)
            rw [upd_ne ne]; exact un.frzs b o u (by rw [era_ne ne]; exact e)
          tbls := fun b p e => by
            have ne : b ≠ D := ne_of e hD (by intro z; cases z)
            obtain ⟨m, hm⟩ := un.tbls b p (by rw [era_ne ne]; exact e)
            exact ⟨m, by rw [upd_ne ne]; exact hm⟩ }
      · intro b o e
        by_cases z : b = D
        · subst z
          rw [upd_same] at e
          cases e
          exact ⟨hz, its, n, rx, eD'⟩
        · rw [upd_ne z] at e
          refine (hok' b o e).stay (fun c u _ q => q) (fun c q => ?_) (fun c ys q => ?_)
          · rw [upd_ne (ne_of_none q nD)]; exact q
          · rw [upd_ne (ne_of_none q nD)]; exact q
def spFrame (sp : Sp) : Sp := fun vs H Q E => ∃ D xs, H D = some (.lst xs) ∧ sp vs (era H D) (fun v H' => H' D = none → Q v (upd H' D (.lst xs))) E
theorem Callee.frame {P : Program} {w : World} {K : PySem.W.Frag} {mg : Str → Option Value} {base : Heap} {x : Str} {k : Nat} {ps : List Str} {sp : Sp} (c : Callee P w K mg base x k ps sp) : Callee P w K mg base x k ps (spFrame sp) := by
  obtain ⟨f, fd, h1, h2, h3, h4⟩ := c.ex
  exact ⟨f, fd, h1, h2, h3, h4.frame⟩
theorem era_upd {H : Hp} {D : Addr} {o : HO} (h : H D = none) : era (upd H D o) D = H := funext fun b => by
  by_cases e : b = D
  · subst e; rw [era_same, h]
  · rw [era_ne e, upd_ne e]
theorem upd_comm {H : Hp} {a b : Addr} {o u : HO} (h : a ≠ b) : upd (upd H a o) b u = upd (upd H b u) a o := funext fun c => by
  by_cases e : c = a
  · subst e; rw [upd_ne h, upd_same, upd_same]
  · rw [upd_ne e]
    by_cases e2 : c = b
    · subst e2; rw [upd_same, upd_same]
    · rw [upd_ne e2, upd_ne e2, upd_ne e]
end L2

namespace Mf
open PySem PySem.Spec PyProof.Rows L2 Km482
/-! ### how the program's data stands for the books -/
abbrev nv (n : Nat) : V := .int (n : Int)
def LstOf {α : Type} (R : Hp → V → α → Prop) (H : Hp) (v : V) (l : List α) : Prop := ∃ a vs, v = .ref a ∧ H a = some (.lst vs) ∧ Paired (R H) vs l
def isN (_ : Hp) (v : V) (n : Nat) : Prop := v = nv n
def isClause (H : Hp) (v : V) (c : Clause) : Prop := ∃ a, v = .ref a ∧ H a = some (.tup [nv c.kind, nv c.i, nv c.j, nv c.k])
def isPair (H : Hp) (v : V) (p : Nat × Nat) : Prop := ∃ a, v = .ref a ∧ H a = some (.tup [nv p.1, nv p.2])
def isPr (H : Hp) (v : V) (p : (Nat × Nat) × (Nat × Nat)) : Prop := ∃ a x y, v = .ref a ∧ H a = some (.tup [x, y]) ∧ isPair H x p.1 ∧ isPair H y p.2
def isRow (H : Hp) (v : V) (r : List Nat) : Prop := ∃ a, v = .ref a ∧ H a = some (.lst (r.map nv))
abbrev isRows : Hp → V → List (List Nat) → Prop := LstOf isRow
def laid3 (b : Book) : List (List (List Nat)) := (List.range b.m).map (laidRows b)
def isPact (Cp : Addr) (H : Hp) (v : V) (b : Book) : Prop := ∃ a dx fs vl vc vu, v = .ref a ∧ H a = some (.ins Cp dx fs) ∧ fs.lookup ("states" : Str) = some (nv b.n) ∧ fs.lookup ("goods" : Str) = some (nv b.m) ∧
  fs.lookup ("laid" : Str) = some vl ∧ fs.lookup ("clauses" : Str) = some vc ∧ fs.lookup ("unions" : Str) = some vu ∧ LstOf isRows H vl (laid3 b) ∧ LstOf isClause H vc b.clauses ∧ LstOf isPair H vu b.unions
/-- all that is no object of the class Cl is as it was -/
def Keep (Cl : Addr) (H H' : Hp) : Prop := ∀ b o, H b = some o → (∀ dx fs, o ≠ .ins Cl dx fs) → H' b = some o
theorem Keep.of {Cl : Addr} {H H' : Hp} (h : Same H H') : Keep Cl H H' := fun b o e _ => h b o e
theorem Keep.trans {Cl : Addr} {H H1 H2 : Hp} (h1 : Keep Cl H H1) (h2 : Keep Cl H1 H2) : Keep Cl H H2 := fun b o e n => h2 b o (h1 b o e n) n
theorem Paired.mono {α β : Type} {F G : α → β → Prop} (h : ∀ a b, F a b → G a b) {l : List α} {r : List β} (p : Paired F l r) : Paired G l r := Paired.mapP p h
section
variable {Cl Cp : Addr} {H H' : Hp}
def Stays {α : Type} (Cl : Addr) (R : Hp → V → α → Prop) : Prop := ∀ H H' v x, Keep Cl H H' → R H v x → R H' v x
theorem st_N : Stays Cl isN := fun _ _ _ _ _ h => h
theorem st_Lst {α : Type} {R : Hp → V → α → Prop} (s : Stays Cl R) : Stays Cl (LstOf R) := fun H H' v x k ⟨a, vs, e, h, p⟩ =>
  ⟨a, vs, e, k a _ h (fun _ _ z => by cases z), Paired.mono (fun v x => s H H' v x k) p⟩
theorem st_Clause : Stays Cl isClause := fun H H' v x k ⟨a, e, h⟩ => ⟨a, e, k a _ h (fun _ _ z => by cases z)⟩
theorem st_Pair : Stays Cl isPair := fun H H' v x k ⟨a, e, h⟩ => ⟨a, e, k a _ h (fun _ _ z => by cases z)⟩
theorem st_Pr : Stays Cl isPr := fun H H' v p k ⟨a, x, y, e, h, h1, h2⟩ => ⟨a, x, y, e, k a _ h (fun _ _ z => by cases z), st_Pair H H' x _ k h1, st_Pair H H' y _ k h2⟩
theorem st_Row : Stays Cl isRow := fun H H' v x k ⟨a, e, h⟩ => ⟨a, e, k a _ h (fun _ _ z => by cases z)⟩
theorem st_Rows : Stays Cl isRows := st_Lst st_Row
theorem st_Pact (ne : Cp ≠ Cl) : Stays Cl (isPact Cp) := fun H H' v b k ⟨a, dx, fs, vl, vc, vu, e, h, h1, h2, h3, h4, h5, h6, h7, h8⟩ =>
  ⟨a, dx, fs, vl, vc, vu, e, k a _ h (fun _ _ z => by injection z with z; exact ne z), h1, h2, h3, h4, h5, st_Lst st_Rows H H' vl _ k h6, st_Lst st_Clause H H' vc _ k h7, st_Lst st_Pair H H' vu _ k h8⟩
end
def numbersBehind : List Nat := [2, 4, 2, 2, 3, 1, 1, 2, 2, 3, 3, 2, 0, 4, 3, 3, 0, 0, 2, 0, 0, 0, 0]
def questions : List Nat := [6, 9, 10, 11, 12, 13, 14, 15, 16, 18, 19]
def ofTheHistory : List Nat := [20, 21, 22]
/-- what the top has made -/
structure Txt (K : PySem.W.Frag) (mg : Str → Option Value) (Cp Cl : Addr) : Prop where
  ne : Cp ≠ Cl
  cl_Pact : Cls K Cp
  cl_Ledger : Cls K Cl
  a_states : NoAttr K Cp "states"
  a_goods : NoAttr K Cp "goods"
  a_laid : NoAttr K Cp "laid"
  a_clauses : NoAttr K Cp "clauses"
  a_unions : NoAttr K Cp "unions"
  a_pact : NoAttr K Cl "pact"
  a_past : NoAttr K Cl "past"
  a_undone : NoAttr K Cl "undone"
  b_abs : mg "abs" = none
  b_all : mg "all" = none
  b_min : mg "min" = none
  b_max : mg "max" = none
  b_len : mg "len" = none
  b_list : mg "list" = none
  b_range : mg "range" = none
  b_sum : mg "sum" = none
  g_FAVOUR : ∃ t, mg "FAVOUR" = some (.int 1 t)
  g_MIRROR : ∃ t, mg "MIRROR" = some (.int 2 t)
  g_FOLLOW : ∃ t, mg "FOLLOW" = some (.int 3 t)
  g_NONE_THERE : ∃ t, mg "NONE_THERE" = some (.int (-2) t)
  g_NOT_IN_UNION : ∃ t, mg "NOT_IN_UNION" = some (.int (-6) t)
  g_THERE_ALREADY : ∃ t, mg "THERE_ALREADY" = some (.int (-17) t)
  g_UNFIT : ∃ t, mg "UNFIT" = some (.int (-22) t)
  g_FULL : ∃ t, mg "FULL" = some (.int (-28) t)
  g_NO_REFUSAL : ∃ t, mg "NO_REFUSAL" = some (.int 0 t)
  g_FEWEST_STATES : ∃ t, mg "FEWEST_STATES" = some (.int 2 t)
  g_MOST_STATES : ∃ t, mg "MOST_STATES" = some (.int 6 t)
  g_FEWEST_GOODS : ∃ t, mg "FEWEST_GOODS" = some (.int 1 t)
  g_MOST_GOODS : ∃ t, mg "MOST_GOODS" = some (.int 3 t)
  g_HIGHEST_DUTY : ∃ t, mg "HIGHEST_DUTY" = some (.int 100 t)
  g_MOST_CLAUSES : ∃ t, mg "MOST_CLAUSES" = some (.int 16 t)
  g_MOST_TAKEN_BACK : ∃ t, mg "MOST_TAKEN_BACK" = some (.int 20 t)
  g_ROW_LENGTH : ∃ t, mg "ROW_LENGTH" = some (.int 6 t)
  g_NUMBERS_BEHIND : ∃ a, mg "NUMBERS_BEHIND" = some (.ref a) ∧ ∀ H, SqT K H a (numbersBehind.map nv)
  g_QUESTIONS : ∃ a, mg "QUESTIONS" = some (.ref a) ∧ ∀ H, SqT K H a (questions.map nv)
  g_OF_THE_HISTORY : ∃ a, mg "OF_THE_HISTORY" = some (.ref a) ∧ ∀ H, SqT K H a (ofTheHistory.map nv)
def top (i : Nat) : Stmt := PySem.Challenge.pw_mostfavoured_s01_answers.main.body.getD i (.Pass ⟨0, 0, 0, 0⟩)
end Mf

namespace Mf
open PySem PySem.Spec PyProof.Rows L2 Km482
section
variable {P : Program} {w : World} {K : PySem.W.Frag} {mg : Str → Option Value} {base : Heap} {Cp Cl : Addr}
abbrev s_has_state : Stmt := top 14
theorem sc_has_state : FnScope ["pact", "i"] ["pact", "i"] (defScope s_has_state) := ⟨rfl, rfl, rfl, by decide +kernel, rfl, by decide +kernel, by decide +kernel⟩
def sp_has_state (Cp : Addr) : Sp := fun vs H Q _ => ∃ v b i, vs = [v, nv i] ∧ isPact Cp H v b ∧ Q (.bl (decide ((i : Int) < (b.n : Int)))) H
theorem ok_has_state {f : Addr} {fd : FuncData} (F : Fun K "has_state" "has_state" s_has_state f fd) (T : Txt K mg Cp Cl) : FnOk P w K mg base CX0 1 f fd ["pact", "i"] (sp_has_state Cp) := by
  refine F.ok sc_has_state (fun vs H Q E h => ?_) (fun cdv A outer s H vs Q E hr h => ?_)
  · obtain ⟨v, b, i, rfl, _⟩ := h
    rfl
  · obtain ⟨v, b, i, rfl, ⟨a, dx, fs, vl, vc, vu, rfl, ha, f1, f2, f3, f4, f5, r1, r2, r3⟩, k⟩ := h
    refine ⟨_, (pss_one (ps_ret (pe_cmpR op_lt (pv 1) (pe_fld (pv 0) rfl) (nomark _)))), ?_⟩
    exact ⟨_, rfl, _, rfl, a, Cp, dx, _, _, rfl, ha, T.cl_Pact, T.a_states, f1, _, _, rfl, rfl, k⟩
abbrev s_union_of : Stmt := top 16
theorem sc_union_of : FnScope ["i", "j"] ["i", "j"] (defScope s_union_of) := ⟨rfl, rfl, rfl, by decide +kernel, rfl, by decide +kernel, by decide +kernel⟩
def sp_union_of : Sp := fun vs H Q _ => ∃ i j : Nat, vs = [nv i, nv j] ∧ ∀ v H', Same H H' → isPair H' v (min i j, max i j) → Q v H'
theorem min_nv (i j : Nat) : V.int (if (j : Int) < (i : Int) then (j : Int) else (i : Int)) = nv (min i j) := by
  congr 1
  by_cases h : (j : Int) < (i : Int)
  · rw [if_pos h, Nat.min_eq_right (by omega)]
  · rw [if_neg h, Nat.min_eq_left (by omega)]
theorem max_nv (i j : Nat) : V.int (if (j : Int) > (i : Int) then (j : Int) else (i : Int)) = nv (max i j) := by
  congr 1
  by_cases h : (j : Int) > (i : Int)
  · rw [if_pos h, Nat.max_eq_right (by omega)]
  · rw [if_neg h, Nat.max_eq_left (by omega)]
theorem same_new {H : Hp} {p : Addr} {o : HO} (h : H p = none) : Same H (upd H p o) := fun b u e => by
  rw [upd_ne (ne_of_none e h)]; exact e
theorem ok_union_of {f : Addr} {fd : FuncData} (F : Fun K "union_of" "union_of" s_union_of f fd) (T : Txt K mg Cp Cl) : FnOk P w K mg base CX0 1 f fd ["i", "j"] sp_union_of := by
  refine F.ok sc_union_of (fun vs H Q E h => ?_) (fun cdv A outer s H vs Q E hr h => ?_)
  · obtain ⟨i, j, rfl, _⟩ := h
    rfl
  · obtain ⟨i, j, rfl, k⟩ := h
    refine ⟨_, (pss_one (ps_ret (pe_tup (pa_cons (pe_callB (call_min2 rfl) (by rfl) T.b_min (by rfl) (pa_cons (pv 0) (pa_cons (pv 1) pa_nil))) (pa_cons (pe_callB (call_max2 rfl) (by rfl) T.b_max (by rfl) (pa_cons (pv 0) (pa_cons (pv 1) pa_nil))) pa_nil))))), ?_⟩
    refine ⟨_, rfl, _, rfl, _, _, rfl, _, rfl, _, rfl, _, _, rfl, (by show 2 ≤ sizeLine; decide), fun p hp => ?_⟩
    rw [min_nv, max_nv]
    exact k _ _ (same_new hp) ⟨p, rfl, upd_same⟩
abbrev s_in_union : Stmt := top 17
theorem sc_in_union : FnScope ["pact", "i", "j"] ["pact", "i", "j"] (defScope s_in_union) := ⟨rfl, rfl, rfl, by decide +kernel, rfl, by decide +kernel, by decide +kernel⟩
def sp_in_union (Cp : Addr) : Sp := fun vs H Q _ => ∃ v b i j, vs = [v, nv i, nv j] ∧ isPact Cp H v b ∧ b.unions.length ≤ 100 ∧ ∀ H', Same H H' → Q (.bl (b.union i j)) H'
def pD (p : Nat × Nat) : PyData := .tuple [.int p.1, .int p.2]
theorem dp_pair {H : Hp} {v : V} {p : Nat × Nat} (h : isPair H v p) : Dp K H v (pD p) := by
  obtain ⟨a, rfl, h⟩ := h
  exact .tup (SqT.of h) (.cons (.int _) (.cons (.int _) .nil))
theorem dp_all {α : Type} {R : Hp → V → α → Prop} {D : α → PyData} {H : Hp} (hR : ∀ v x, R H v x → Dp K H v (D x)) : ∀ {vs : List V} {l : List α}, Paired (R H) vs l → DpAll K H vs (l.map D)
  | _, _, .nil => .nil
  | _, _, .cons r t => .cons (hR _ _ r) (dp_all hR t)
theorem dp_lst {α : Type} {R : Hp → V → α → Prop} {D : α → PyData} {H : Hp} {v : V} {l : List α} (hR : ∀ v x, R H v x → Dp K H v (D x)) (h : LstOf R H v l) : Dp K H v (.list (l.map D)) := by
  obtain ⟨a, vs, rfl, h, p⟩ := h
  exact .lst (SqL.of h) (dp_all hR p)
theorem eqv_pair (p q : Nat × Nat) : PyData.eqv (pD p) (pD q) = decide (p = q) := by
  show (((p.1 : Int) == (q.1 : Int)) && (((p.2 : Int) == (q.2 : Int)) && true)) = _
  rw [Bool.eq_iff_iff]
  simp [Prod.ext_iff]
  constructor <;> (rintro ⟨h1, h2⟩; exact ⟨by omega, by omega⟩)
theorem in_pairs (l : List (Nat × Nat)) (q : Nat × Nat) : (l.map pD).any (fun z => PyData.eqv z (pD q)) = l.contains q := by
  rw [List.any_map, Bool.eq_iff_iff, List.any_eq_true, List.contains_iff_mem]
  constructor
  · rintro ⟨x, hx, e⟩
    have e : PyData.eqv (pD x) (pD q) = true := e
    rw [eqv_pair, decide_eq_true_iff] at e
    rw [← e]; exact hx
  · intro h
    exact ⟨q, h, by show PyData.eqv (pD q) (pD q) = true; rw [eqv_pair]; simp⟩
theorem lay_all {α : Type} {D : α → PyData} (h : ∀ x, (D x).canLay0 = true) : ∀ l : List α, PyData.canLayAll0 (l.map D) = true
  | [] => rfl
  | x :: l => by
    rw [List.map_cons]
    simp only [PyData.canLayAll0, h x, lay_all h l, Bool.and_self]
theorem deep_all {α : Type} {D : α → PyData} {k : Nat} (h : ∀ x, (D x).depth ≤ k) : ∀ l : List α, PyData.depthAll (l.map D) ≤ k
  | [] => by simp [PyData.depthAll]
  | x :: l => by
    rw [List.map_cons]
    simp only [PyData.depthAll]
    exact Nat.max_le.mpr ⟨h x, deep_all h l⟩
theorem shaped_list {α : Type} {D : α → PyData} (h : ∀ x, (D x).canLay0 = true) (h2 : ∀ x, (D x).depth ≤ 9) (l : List α) : SeqAt.shaped (.list (l.map D)) = true := by
  unfold SeqAt.shaped
  rw [Bool.and_eq_true]
  refine ⟨lay_all h l, decide_eq_true ?_⟩
  have := deep_all h2 l
  simp only [PyData.depth]
  omega
theorem lay_pD (p : Nat × Nat) : (pD p).canLay0 = true := rfl
theorem deep_pD (p : Nat × Nat) : (pD p).depth ≤ 9 := by show (1 : Nat) ≤ 9; decide
theorem shaped_pD (p : Nat × Nat) : SeqAt.shaped (pD p) = true := rfl
theorem ok_in_union {f : Addr} {fd : FuncData} (F : Fun K "in_union" "in_union" s_in_union f fd) (T : Txt K mg Cp Cl) (C_union_of : Callee P w K mg base "union_of" 1 ["i", "j"] sp_union_of) : FnOk P w K mg base CX0 2 f fd ["pact", "i", "j"] (sp_in_union Cp) := by
  refine F.ok sc_in_union (fun vs H Q E h => ?_) (fun cdv A outer s H vs Q E hr h => ?_)
  · obtain ⟨v, b, i, j, rfl, _⟩ := h
    rfl
  · obtain ⟨v, b, i, j, rfl, ⟨a, dx, fs, vl, vc, vu, rfl, ha, f1, f2, f3, f4, f5, r1, r2, r3⟩, hl, k⟩ := h
    have hu64 := hu100 hr
    refine ⟨_, (pss_one (ps_ret (pe_cmpR (op_inD hu64) (pe_callC C_union_of hr rfl (pa_cons (pv 1) (pa_cons (pv 2) pa_nil))) (pe_fld (pv 0) rfl) (by with_unfolding_all rfl)))), ?_⟩
    refine ⟨_, rfl, _, rfl, i, j, rfl, fun v H1 s1 hv => ⟨_, rfl, a, Cp, dx, _, _, rfl, s1 _ _ ha, T.cl_Pact, T.a_unions, f5, _, _, dp_pair hv, dp_lst (fun _ _ => dp_pair) (st_Lst st_Pair H H1 vu _ (Keep.of (Cl := Cl) s1) r3), shaped_pD _, shaped_list lay_pD deep_pD _, ?_⟩⟩
    have e : (b.unions.map pD).any (fun z => PyData.eqv z (pD (min i j, max i j))) = b.union i j := in_pairs _ _
    show Q (.bl ((b.unions.map pD).any fun z => PyData.eqv z (pD (min i j, max i j)))) H1
    rw [e]
    exact k H1 s1
end
end Mf

namespace Mf
open PySem PySem.Spec PyProof.Rows L2 Km482
section
variable {P : Program} {w : World} {K : PySem.W.Frag} {mg : Str → Option Value} {base : Heap} {Cp Cl : Addr}
/-! ### Pact -/
abbrev s_Pact_init : Stmt := inClass (top 6) 0
theorem sc_Pact_init : FnScope ["self", "states", "goods", "laid", "clauses", "unions"] ["self", "states", "goods", "laid", "clauses", "unions"] (defScope s_Pact_init) := ⟨rfl, rfl, rfl, by decide +kernel, rfl, by decide +kernel, by decide +kernel⟩
def pf (x1 x2 x3 x4 x5 : V) : List (Str × V) := [("states", x1), ("goods", x2), ("laid", x3), ("clauses", x4), ("unions", x5)]
theorem pf_eq (x1 x2 x3 x4 x5 : V) : putF "unions" x5 (putF "clauses" x4 (putF "laid" x3 (putF "goods" x2 (putF "states" x1 [])))) = pf x1 x2 x3 x4 x5 := by
  with_unfolding_all rfl
theorem fewP {f : Str} {y : V} {fs : List (Str × V)} {n : Nat} (h : fs.length ≤ n) : (putF f y fs).length ≤ n + 1 := by
  have := length_putF f y fs
  omega
def sp_Pact_init (Cp : Addr) : Sp := fun vs H Q _ => ∃ p dx x1 x2 x3 x4 x5, vs = [.ref p, x1, x2, x3, x4, x5] ∧ H p = some (.ins Cp dx []) ∧ Q .non (upd H p (.ins Cp dx (pf x1 x2 x3 x4 x5)))
theorem ok_Pact_init {f : Addr} {fd : FuncData} (F : Fun K "__init__" "Pact.__init__" s_Pact_init f fd) (T : Txt K mg Cp Cl) : FnOk P w K mg base CX0 1 f fd ["self", "states", "goods", "laid", "clauses", "unions"] (sp_Pact_init Cp) := by
  refine F.ok sc_Pact_init (fun vs H Q E h => ?_) (fun cdv A outer s H vs Q E hr h => ?_)
  · obtain ⟨p, dx, x1, x2, x3, x4, x5, rfl, _⟩ := h
    rfl
  · obtain ⟨p, dx, x1, x2, x3, x4, x5, rfl, hp, k⟩ := h
    refine ⟨_, (pss_cons (ps_fld (pv 0) (pv 1) rfl) (pss_cons (ps_fld (pv 0) (pv 2) rfl) (pss_cons (ps_fld (pv 0) (pv 3) rfl) (pss_cons (ps_fld (pv 0) (pv 4) rfl) (pss_one (ps_fld (pv 0) (pv 5) rfl)))))), ?_⟩
    refine ⟨_, rfl, _, rfl, p, Cp, dx, [], rfl, hp, T.cl_Pact, T.a_states, (by decide), ?_⟩
    refine ⟨_, rfl, _, rfl, p, Cp, dx, _, rfl, upd_same, T.cl_Pact, T.a_goods, Nat.lt_of_le_of_lt (fewP (Nat.le_refl 0)) (by decide), ?_⟩
    refine ⟨_, rfl, _, rfl, p, Cp, dx, _, rfl, upd_same, T.cl_Pact, T.a_laid, Nat.lt_of_le_of_lt (fewP (fewP (Nat.le_refl 0))) (by decide), ?_⟩
    refine ⟨_, rfl, _, rfl, p, Cp, dx, _, rfl, upd_same, T.cl_Pact, T.a_clauses, Nat.lt_of_le_of_lt (fewP (fewP (fewP (Nat.le_refl 0)))) (by decide), ?_⟩
    refine ⟨_, rfl, _, rfl, p, Cp, dx, _, rfl, upd_same, T.cl_Pact, T.a_unions, Nat.lt_of_le_of_lt (fewP (fewP (fewP (fewP (Nat.le_refl 0))))) (by decide), ?_⟩
    rw [upd_upd, upd_upd, upd_upd, upd_upd, pf_eq]
    exact k
theorem made_same {H : Hp} {x dx : Addr} {o1 o2 o3 : HO} (nx : H x = none) (nd : H dx = none) : Same H (upd (upd (upd H dx o1) x o2) x o3) := fun b o e => by
  rw [upd_upd, upd_ne (ne_of_none e nx), upd_ne (ne_of_none e nd)]; exact e
theorem pf_pact {H : Hp} {x dx : Addr} {b : Book} {vl vc vu : V} (h : H x = some (.ins Cp dx (pf (nv b.n) (nv b.m) vl vc vu))) (h1 : LstOf isRows H vl (laid3 b)) (h2 : LstOf isClause H vc b.clauses) (h3 : LstOf isPair H vu b.unions) : isPact Cp H (.ref x) b :=
  ⟨x, dx, _, vl, vc, vu, rfl, h, rfl, rfl, rfl, rfl, rfl, h1, h2, h3⟩
abbrev s_with_clauses : Stmt := top 11
theorem sc_with_clauses : FnScope ["pact", "clauses"] ["pact", "clauses"] (defScope s_with_clauses) := ⟨rfl, rfl, rfl, by decide +kernel, rfl, by decide +kernel, by decide +kernel⟩
def sp_with_clauses (Cp : Addr) : Sp := fun vs H Q _ => ∃ v b vc cs, vs = [v, vc] ∧ isPact Cp H v b ∧ LstOf isClause H vc cs ∧ ∀ v' H', Same H H' → isPact Cp H' v' { b with clauses := cs } → Q v' H'
abbrev psPact : List Str := ["self", "states", "goods", "laid", "clauses", "unions"]
theorem ok_with_clauses {f : Addr} {fd : FuncData} (F : Fun K "with_clauses" "with_clauses" s_with_clauses f fd) (T : Txt K mg Cp Cl) (C_Pact : CalleeI P w K mg base "Pact" Cp 1 psPact (sp_Pact_init Cp)) : FnOk P w K mg base CX0 3 f fd ["pact", "clauses"] (sp_with_clauses Cp) := by
  refine F.ok sc_with_clauses (fun vs H Q E h => ?_) (fun cdv A outer s H vs Q E hr h => ?_)
  · obtain ⟨v, b, vc, cs, rfl, _⟩ := h
    rfl
  · obtain ⟨v, b, vc', cs, rfl, ⟨a, dx, fs, vl, vc, vu, rfl, ha, f1, f2, f3, f4, f5, r1, r2, r3⟩, hc, k⟩ := h
    refine ⟨_, (pss_one (ps_ret (pe_makeC C_Pact hr rfl (pa_cons (pe_fld (pv 0) rfl) (pa_cons (pe_fld (pv 0) rfl) (pa_cons (pe_fld (pv 0) rfl) (pa_cons (pv 1) (pa_cons (pe_fld (pv 0) rfl) pa_nil)))))))), ?_⟩
    refine ⟨_, rfl, a, Cp, dx, _, _, rfl, ha, T.cl_Pact, T.a_states, f1, _, rfl, a, Cp, dx, _, _, rfl, ha, T.cl_Pact, T.a_goods, f2, _, rfl, a, Cp, dx, _, _, rfl, ha, T.cl_Pact, T.a_laid, f3, _, rfl, _, rfl, a, Cp, dx, _, _, rfl, ha, T.cl_Pact, T.a_unions, f5, ?_⟩
    intro x dx' nx nd ne
    refine ⟨x, dx', _, _, _, _, _, rfl, upd_same, rfl, ?_⟩
    have s1 : Same H (upd (upd (upd H dx' (.own x)) x (.ins Cp dx' [])) x (.ins Cp dx' (pf (nv b.n) (nv b.m) vl vc' vu))) := made_same nx nd
    have kp : Keep Cl H _ := Keep.of s1
    exact k _ _ s1 (pf_pact (b := { b with clauses := cs }) upd_same (st_Lst st_Rows _ _ _ _ kp r1) (st_Lst st_Clause _ _ _ _ kp hc) (st_Lst st_Pair _ _ _ _ kp r3))
abbrev s_with_unions : Stmt := top 13
theorem sc_with_unions : FnScope ["pact", "unions"] ["pact", "unions"] (defScope s_with_unions) := ⟨rfl, rfl, rfl, by decide +kernel, rfl, by decide +kernel, by decide +kernel⟩
def sp_with_unions (Cp : Addr) : Sp := fun vs H Q _ => ∃ v b vc us, vs = [v, vc] ∧ isPact Cp H v b ∧ LstOf isPair H vc us ∧ ∀ v' H', Same H H' → isPact Cp H' v' { b with unions := us } → Q v' H'
theorem ok_with_unions {f : Addr} {fd : FuncData} (F : Fun K "with_unions" "with_unions" s_with_unions f fd) (T : Txt K mg Cp Cl) (C_Pact : CalleeI P w K mg base "Pact" Cp 1 psPact (sp_Pact_init Cp)) : FnOk P w K mg base CX0 3 f fd ["pact", "unions"] (sp_with_unions Cp) := by
  refine F.ok sc_with_unions (fun vs H Q E h => ?_) (fun cdv A outer s H vs Q E hr h => ?_)
  · obtain ⟨v, b, vc, cs, rfl, _⟩ := h
    rfl
  · obtain ⟨v, b, vc', us, rfl, ⟨a, dx, fs, vl, vc, vu, rfl, ha, f1, f2, f3, f4, f5, r1, r2, r3⟩, hc, k⟩ := h
    refine ⟨_, (pss_one (ps_ret (pe_makeC C_Pact hr rfl (pa_cons (pe_fld (pv 0) rfl) (pa_cons (pe_fld (pv 0) rfl) (pa_cons (pe_fld (pv 0) rfl) (pa_cons (pe_fld (pv 0) rfl) (pa_cons (pv 1) pa_nil)))))))), ?_⟩
    refine ⟨_, rfl, a, Cp, dx, _, _, rfl, ha, T.cl_Pact, T.a_states, f1, _, rfl, a, Cp, dx, _, _, rfl, ha, T.cl_Pact, T.a_goods, f2, _, rfl, a, Cp, dx, _, _, rfl, ha, T.cl_Pact, T.a_laid, f3, _, rfl, a, Cp, dx, _, _, rfl, ha, T.cl_Pact, T.a_clauses, f4, _, rfl, ?_⟩
    intro x dx' nx nd ne
    refine ⟨x, dx', _, _, _, _, _, rfl, upd_same, rfl, ?_⟩
    have s1 : Same H (upd (upd (upd H dx' (.own x)) x (.ins Cp dx' [])) x (.ins Cp dx' (pf (nv b.n) (nv b.m) vl vc vc'))) := made_same nx nd
    have kp : Keep Cl H _ := Keep.of s1
    exact k _ _ s1 (pf_pact (b := { b with unions := us }) upd_same (st_Lst st_Rows _ _ _ _ kp r1) (st_Lst st_Clause _ _ _ _ kp r2) (st_Lst st_Pair _ _ _ _ kp hc))
end
end Mf

namespace Mf
open PySem PySem.Spec PyProof.Rows L2 Km482
/-! ### pairs of lists -/
section
variable {α β : Type} {F G : α → β → Prop}
theorem pd_len : ∀ {l : List α} {r : List β}, Paired F l r → l.length = r.length
  | _, _, .nil => rfl
  | _, _, .cons _ t => by rw [List.length_cons, List.length_cons, pd_len t]
theorem pd_get : ∀ {l : List α} {r : List β} {i : Nat} {x : α}, Paired F l r → l[i]? = some x → ∃ y, r[i]? = some y ∧ F x y
  | _, _, _, _, .nil, e => by simp at e
  | _, _, 0, x, .cons h _, e => by simp at e; subst e; exact ⟨_, rfl, h⟩
  | _, _, i + 1, x, .cons _ t, e => by
    obtain ⟨y, h1, h2⟩ := pd_get (i := i) t (by simpa using e)
    exact ⟨y, by simpa using h1, h2⟩
theorem pd_get' : ∀ {l : List α} {r : List β} {i : Nat} {y : β}, Paired F l r → r[i]? = some y → ∃ x, l[i]? = some x ∧ F x y
  | _, _, _, _, .nil, e => by simp at e
  | _, _, 0, x, .cons h _, e => by simp at e; subst e; exact ⟨_, rfl, h⟩
  | _, _, i + 1, x, .cons _ t, e => by
    obtain ⟨y, h1, h2⟩ := pd_get' (i := i) t (by simpa using e)
    exact ⟨y, by simpa using h1, h2⟩
theorem pd_of : ∀ {l : List α} {r : List β}, l.length = r.length → (∀ (i : Nat) (x : α) (y : β), l[i]? = some x → r[i]? = some y → F x y) → Paired F l r
  | [], [], _, _ => .nil
  | [], _ :: _, h, _ => by simp at h
  | _ :: _, [], h, _ => by simp at h
  | x :: l, y :: r, h, f => .cons (f 0 x y rfl rfl) (pd_of (by simpa using h) fun i a b h1 h2 => f (i + 1) a b (by simpa using h1) (by simpa using h2))
theorem pd_app : ∀ {l l' : List α} {r r' : List β}, Paired F l r → Paired F l' r' → Paired F (l ++ l') (r ++ r')
  | _, _, _, _, .nil, q => q
  | _, _, _, _, .cons h t, q => .cons h (pd_app t q)
theorem take_snoc : ∀ {l : List α} {i : Nat} {x : α}, l[i]? = some x → l.take (i + 1) = l.take i ++ [x]
  | [], i, x, h => by simp at h
  | a :: l, 0, x, h => by
    have e : a = x := Option.some.inj h
    subst e
    rfl
  | a :: l, i + 1, x, h => by
    have ih := take_snoc (l := l) (i := i) (x := x) h
    show a :: l.take (i + 1) = a :: l.take i ++ [x]
    rw [ih]
    rfl
end
/-- a list of rows of one's own: none of its lists stood in H0 -/
structure RowsAt (H0 H : Hp) (a : Addr) (as : List Addr) (rows : List (List Nat)) : Prop where
  lst : H a = some (.lst (as.map V.ref))
  rw_ : Paired (fun c r => H c = some (.lst (List.map nv r))) as rows
  nd : as.Nodup
  fa : H0 a = none
  fr : ∀ c ∈ as, H0 c = none
  na : a ∉ as
theorem RowsAt.rows {H0 H : Hp} {a : Addr} {as : List Addr} {rows : List (List Nat)} (h : RowsAt H0 H a as rows) : isRows H (.ref a) rows := by
  refine ⟨a, _, rfl, h.lst, ?_⟩
  refine pd_of (by rw [List.length_map]; exact pd_len h.rw_) fun i x y h1 h2 => ?_
  obtain ⟨c, hc, e⟩ := pd_get' h.rw_ h2
  rw [List.getElem?_map, hc] at h1
  cases h1
  exact ⟨c, rfl, e⟩
section
variable {P : Program} {w : World} {K : PySem.W.Frag} {mg : Str → Option Value} {base : Heap} {Cp Cl : Addr}
abbrev s_copy_rows : Stmt := top 8
theorem sc_copy_rows : FnScope ["rows", "row"] ["rows"] (defScope s_copy_rows) := ⟨rfl, rfl, rfl, by decide +kernel, rfl, by decide +kernel, by decide +kernel⟩
def sp_copy_rows : Sp := fun vs H Q _ => ∃ v rows, vs = [v] ∧ isRows H v rows ∧ rows.length ≤ 100 ∧ ∀ H' a as, Same H H' → RowsAt H H' a as rows → Q (.ref a) H'
theorem ok_copy_rows {f : Addr} {fd : FuncData} (F : Fun K "copy_rows" "copy_rows" s_copy_rows f fd) (T : Txt K mg Cp Cl) : FnOk P w K mg base CX0 1 f fd ["rows"] sp_copy_rows := by
  refine F.ok sc_copy_rows (fun vs H Q E h => ?_) (fun cdv A outer s H vs Q E hr h => ?_)
  · obtain ⟨v, rows, rfl, _⟩ := h
    rfl
  · obtain ⟨v, rows, rfl, ⟨a, vs, rfl, ha, hp⟩, hlen, k⟩ := h
    refine ⟨_, (pss_one (ps_ret (pe_lc rfl sc_copy_rows.nd (pi_list (pv 0)) (blkOk_by (own := [("row", 1)]) (by show blkC ["rows", "row"] (defScope s_copy_rows) _ _ = true; decide +kernel)) (fun _ _ _ _ _ => (pg_name (i := 1) sc_copy_rows.nd rfl (Or.inl rfl))) (fun _ _ _ _ _ => pts_nil) (fun _ _ _ _ _ => (pe_callTy (call_list_ofK (K := K) rfl) (by rfl) T.b_list (by rfl) (pa_cons (pv 1) pa_nil)))))), ?_⟩
    have hvl := pd_len hp
    refine ⟨_, rfl, a, rfl, ⟨_, SqL.of ha⟩, fun D hD => lc_list (K := K) (a := a) (xs := vs) (fun i H' => ∃ as, Same H H' ∧ RowsAt H H' D as (rows.take i)) ?_ ?_ ?_ ?_⟩
    · exact ⟨[], same_new hD, upd_same, .nil, List.nodup_nil, hD, fun c hc => by simp at hc, by simp⟩
    · rintro i H' _ ⟨as, s1, _⟩
      exact SqL.of (s1 _ _ ha)
    · rintro i x H' hx ⟨as, s1, R⟩
      obtain ⟨r, hr, c, rfl, hc⟩ := pd_get hp hx
      refine ⟨rfl, ?_⟩
      refine ⟨_, rfl, c, _, rfl, .inl (SqL.of (s1 _ _ hc)), fun l hl => ?_⟩
      have hil : i < rows.length := (List.getElem?_eq_some_iff.mp hr).1
      have lD : l ≠ D := fun z => by rw [z, R.lst] at hl; cases hl
      refine ⟨as.map V.ref, by rw [upd_ne lD.symm]; exact R.lst, ?_, as ++ [l], ?_, ?_⟩
      · rw [List.length_map, pd_len R.rw_, List.length_take, sizeLine_eq]
        omega
      · intro b o e
        have b1 : b ≠ D := ne_of_none e hD
        rw [upd_ne b1, upd_ne (ne_of_none (s1 _ _ e) hl)]
        exact s1 _ _ e
      · have nl : l ∉ as := fun z => by
          obtain ⟨j, hj⟩ := List.getElem?_of_mem z
          obtain ⟨y, _, e⟩ := pd_get R.rw_ hj
          rw [hl] at e; cases e
        refine ⟨by rw [upd_same, List.map_append]; rfl, ?_, nodup_snoc R.nd nl, hD, ?_, ?_⟩
        · rw [take_snoc hr]
          refine Paired.snoc (Paired.mono (fun c r e => ?_) (pd_of (F := fun c r => H' c = some (.lst (List.map nv r)) ∧ c ∈ as) (pd_len R.rw_) fun i x y h1 h2 => ?_)) ?_
          · obtain ⟨e, hc⟩ := e
            have n1 : c ≠ D := fun z => R.na (z ▸ hc)
            have n2 : c ≠ l := fun z => nl (z ▸ hc)
            rw [upd_ne n1, upd_ne n2]; exact e
          · obtain ⟨y', hy', e⟩ := pd_get R.rw_ h1
            rw [h2] at hy'; cases hy'
            exact ⟨e, List.mem_of_getElem? h1⟩
          · rw [upd_ne lD, upd_same]
        · intro c hc
          rcases List.mem_append.mp hc with z | z
          · exact R.fr c z
          · rw [List.mem_singleton.mp z]; exact s1.free hl
        · intro z
          rcases List.mem_append.mp z with z | z
          · exact R.na z
          · exact lD (List.mem_singleton.mp z).symm
    · rintro H' ⟨as, s1, R⟩
      rw [hvl, List.take_length] at R
      exact k H' D as s1 R
end
end Mf

namespace Mf
open PySem PySem.Spec PyProof.Rows L2 Km482
/-- one number of rows of one's own -/
theorem RowsAt.get {H0 H : Hp} {a : Addr} {as : List Addr} {T : List (List Nat)} {n i j : Nat} (R : RowsAt H0 H a as T) (S : Shape n T) (hi : i < n) (hj : j < n) :
    ∃ c r, as[i]? = some c ∧ T[i]? = some r ∧ T.getD i [] = r ∧ r.length = n ∧ H c = some (.lst (r.map nv)) ∧ (as.map V.ref)[i]? = some (.ref c) ∧ (r.map nv)[j]? = some (nv (get2 T i j)) := by
  obtain ⟨r, h1, h2, h3⟩ := S.row hi
  obtain ⟨c, h4, h5⟩ := pd_get' R.rw_ h1
  refine ⟨c, r, h4, h1, h2, h3, h5, by rw [List.getElem?_map, h4]; rfl, ?_⟩
  rw [List.getElem?_map]
  unfold get2
  rw [h2, List.getD_eq_getElem?_getD, List.getElem?_eq_getElem (by omega)]
  rfl
theorem RowsAt.set {H0 H : Hp} {a : Addr} {as : List Addr} {T : List (List Nat)} {i j v : Nat} {c : Addr} {r : List Nat} (R : RowsAt H0 H a as T) (hc : as[i]? = some c) (hr : T[i]? = some r) (h2 : T.getD i [] = r) :
    RowsAt H0 (upd H c (.lst ((r.map nv).set j (nv v)))) a as (set2 T i j v) := by
  have mc : c ∈ as := List.mem_of_getElem? hc
  have nac : a ≠ c := fun z => R.na (z ▸ mc)
  refine ⟨by rw [upd_ne nac]; exact R.lst, ?_, R.nd, R.fa, R.fr, R.na⟩
  refine pd_of (by unfold set2; rw [List.length_set]; exact pd_len R.rw_) fun k x y h3 h4 => ?_
  unfold set2 at h4
  rw [h2] at h4
  by_cases e : k = i
  · subst e
    rw [hc] at h3
    cases h3
    rw [List.getElem?_set_self (List.getElem?_eq_some_iff.mp hr).1] at h4
    cases h4
    rw [upd_same, List.map_set]
  · rw [List.getElem?_set_ne (fun z => e z.symm)] at h4
    have nx : x ≠ c := fun z => e (nd_ix R.nd h3 (by rw [z]; exact hc))
    obtain ⟨y', h5, h6⟩ := pd_get R.rw_ h3
    rw [h4] at h5
    cases h5
    rw [upd_ne nx]; exact h6
/-- all but the rows is as it was -/
def KeepBut (as : List Addr) (H H' : Hp) : Prop := ∀ b o, H b = some o → b ∉ as → H' b = some o
section
variable {P : Program} {w : World} {K : PySem.W.Frag} {mg : Str → Option Value} {base : Heap} {Cp Cl : Addr}
abbrev s_lower_once : Stmt := top 33
theorem sc_lower_once : FnScope ["takes", "pairs", "fell", "pair", "duty", "bound", "most"] ["takes", "pairs"] (defScope s_lower_once) := ⟨rfl, rfl, rfl, by decide +kernel, rfl, by decide +kernel, by decide +kernel⟩
def prOk (n : Nat) (p : Pr) : Prop := p.1.1 < n ∧ p.1.2 < n ∧ p.2.1 < n ∧ p.2.2 < n
def sp_lower_once : Sp := fun vs H Q _ => ∃ H0 a as T n vp prs, vs = [.ref a, vp] ∧ RowsAt H0 H a as T ∧ Shape n T ∧ 0 < n ∧ LstOf isPr H vp prs ∧ (∀ p ∈ prs, prOk n p) ∧
  ∀ H', KeepBut as H H' → RowsAt H0 H' a as (lowerAll prs (T, false)).1 → Shape n (lowerAll prs (T, false)).1 → Q (.bl (lowerAll prs (T, false)).2) H'
theorem lowerOne_shape {n : Nat} {T : List (List Nat)} (S : Shape n T) {p : Pr} (hp : prOk n p) : Shape n (lowerOne T p) := by
  unfold lowerOne
  by_cases e : get2 T p.2.1 p.2.2 < get2 T p.1.1 p.1.2
  · rw [if_pos e]; exact S.set2 hp.1 _ _
  · rw [if_neg e]; exact S
theorem ok_lower_once {f : Addr} {fd : FuncData} (F : Fun K "lower_once" "lower_once" s_lower_once f fd) (T : Txt K mg Cp Cl) : FnOk P w K mg base CX0 1 f fd ["takes", "pairs"] sp_lower_once := by
  refine F.ok sc_lower_once (fun vs H Q E h => ?_) (fun cdv A outer s H vs Q E hr h => ?_)
  · obtain ⟨H0, a, as, T, n, vp, prs, rfl, _⟩ := h
    rfl
  · obtain ⟨H0, a, as, T, n, vp, prs, rfl, R, S, hn, ⟨p, vs, rfl, hp, hpr⟩, hok, k⟩ := h
    refine ⟨_, (pss_cons (ps_set (i := 2) sc_lower_once.nd rfl (Or.inl rfl) pe_bl)
      (pss_cons (ps_for PassesOwn.never rfl (pi_list (pv 1)) (pg_name (i := 3) sc_lower_once.nd rfl (Or.inl rfl))
      (pss_cons (ps_set (i := 4) sc_lower_once.nd rfl (Or.inl rfl) (pe_ix ix_tup (pv 3) pe_int (fun _ _ => rfl)))
      (pss_cons (ps_set (i := 5) sc_lower_once.nd rfl (Or.inl rfl) (pe_ix ix_tup (pv 3) pe_int (fun _ _ => rfl)))
      (pss_cons (ps_set (i := 6) sc_lower_once.nd rfl (Or.inl rfl) (pe_ix ix_list (pe_ix ix_list (pv 0) (pe_ix ix_tup (pv 5) pe_int (fun _ _ => rfl)) (fun _ _ => rfl)) (pe_ix ix_tup (pv 5) pe_int (fun _ _ => rfl)) (fun _ _ => rfl)))
      (pss_one (ps_if (pt_cmpR op_gt (pe_ix ix_list (pe_ix ix_list (pv 0) (pe_ix ix_tup (pv 4) pe_int (fun _ _ => rfl)) (fun _ _ => rfl)) (pe_ix ix_tup (pv 4) pe_int (fun _ _ => rfl)) (fun _ _ => rfl)) (pv 6) (nomark _)) (pss_cons (ps_asg (pv 6) (pg_sub (pe_ix ix_list (pv 0) (pe_ix ix_tup (pv 4) pe_int (fun _ _ => rfl)) (fun _ _ => rfl)) (pe_ix ix_tup (pv 4) pe_int (fun _ _ => rfl)) set_list))
      (pss_one (ps_set (i := 2) sc_lower_once.nd rfl (Or.inl rfl) pe_bl))) pss_nil))))))
      (pss_one (ps_ret (pv 2))))), ?_⟩
    have hvl := pd_len hpr
    -- the list of pairs is none of the rows
    have np : ∀ c ∈ as, ∀ {H' : Hp} {r : List Nat}, H' c = some (.lst (r.map nv)) → H' p = some (.lst vs) → 0 < r.length → 0 < vs.length → c ≠ p := by
      intro c _ H' r h1 h2 h3 h4 z
      rw [z, h2] at h1
      have e : vs = r.map nv := by injection h1 with h1; injection h1
      obtain ⟨x, hx⟩ : ∃ x, vs[0]? = some x := ⟨_, List.getElem?_eq_getElem h4⟩
      obtain ⟨y, _, t, _, _, e2, _⟩ := pd_get hpr hx
      rw [e, List.getElem?_map] at hx
      cases q : r[0]? with
      | none => rw [q] at hx; cases hx
      | some z2 =>
        rw [q] at hx
        rw [← Option.some.inj hx] at e2
        cases e2
    have npa : 0 < vs.length → p ∉ as := fun h4 z => by
      obtain ⟨j, hj⟩ := List.getElem?_of_mem z
      obtain ⟨r, hr, e⟩ := pd_get R.rw_ hj
      exact np p z e hp (by rw [S.2 r (List.mem_of_getElem? hr)]; exact hn) h4 rfl
    refine ⟨_, rfl, p, rfl, ⟨_, SqL.of hp⟩, for_list (K := K) (a := p) (xs := vs) (fun i σ H' => ∃ o3 o4 o5 o6 : Option V, σ = [some (.ref a), some (.ref p), some (.bl (lowerAll (prs.take i) (T, false)).2), o3, o4, o5, o6] ∧ KeepBut as H H' ∧
      RowsAt H0 H' a as (lowerAll (prs.take i) (T, false)).1 ∧ Shape n (lowerAll (prs.take i) (T, false)).1 ∧ H' p = some (.lst vs)) ?_ ?_ ?_ ?_⟩
    · exact ⟨none, none, none, none, rfl, fun b o e _ => e, R, S, hp⟩
    · rintro i σ H' _ ⟨_, _, _, _, _, _, _, _, h⟩
      exact SqL.of h
    · rintro i x σ H' hx ⟨o3, o4, o5, o6, rfl, kb, R', S', hp'⟩
      obtain ⟨pr, hpi, t, x1, x2, rfl, ht, ⟨t1, rfl, ht1⟩, ⟨t2, rfl, ht2⟩⟩ := pd_get hpr hx
      have hpk := hok pr (List.mem_of_getElem? hpi)
      obtain ⟨q1, q2, q3, q4⟩ := hpk
      have tupK : ∀ {b : Addr} {xs : List V}, H b = some (.tup xs) → H' b = some (.tup xs) := fun {b xs} e => kb b _ e fun z => by
        obtain ⟨j, hj⟩ := List.getElem?_of_mem z
        obtain ⟨r, _, e2⟩ := pd_get R.rw_ hj
        rw [e] at e2; cases e2
      have ht' := tupK ht
      have ht1' := tupK ht1
      have ht2' := tupK ht2
      have sn := lowerAll_snoc (prs.take i) pr (T, false)
      rw [← take_snoc hpi] at sn
      generalize lowerAll (prs.take i) (T, false) = TF at R' S' sn ⊢
      obtain ⟨T', f'⟩ := TF
      obtain ⟨c1, r1, a1, a2, a3, a4, a5, a6, a7⟩ := R'.get S' q1 q2
      obtain ⟨c2, r2, b1, b2, b3, b4, b5, b6, b7⟩ := R'.get S' q3 q4
      refine ⟨_, rfl, t, _, _, _, rfl, rfl, SqT.of ht', atI_nat (j := 0) rfl, ?_⟩
      refine ⟨_, rfl, t, _, _, _, rfl, rfl, SqT.of ht', atI_nat (j := 1) rfl, ?_⟩
      refine ⟨_, rfl, _, rfl, t2, _, _, _, rfl, rfl, SqT.of ht2', atI_nat (j := 0) rfl, a, _, _, _, rfl, rfl, SqL.of R'.lst, atI_nat b6, _, rfl, t2, _, _, _, rfl, rfl, SqT.of ht2', atI_nat (j := 1) rfl, c2, _, _, _, rfl, rfl, SqL.of b5, atI_nat b7, ?_⟩
      refine ⟨_, rfl, _, rfl, t1, _, _, _, rfl, rfl, SqT.of ht1', atI_nat (j := 0) rfl, a, _, _, _, rfl, rfl, SqL.of R'.lst, atI_nat a6, _, rfl, t1, _, _, _, rfl, rfl, SqT.of ht1', atI_nat (j := 1) rfl, c1, _, _, _, rfl, rfl, SqL.of a5, atI_nat a7, _, rfl, _, _, rfl, rfl, _, rfl, ?_⟩
      have mc1 : c1 ∈ as := List.mem_of_getElem? a1
      refine ite2 (fun hlt => ?_) (fun hlt => ?_)
      · have hlt : get2 T' pr.2.1 pr.2.2 < get2 T' pr.1.1 pr.1.2 := by
          have := of_decide_eq_true hlt
          dsimp only at this
          omega
        refine ⟨_, rfl, _, rfl, _, rfl, t1, _, _, _, rfl, rfl, SqT.of ht1', atI_nat (j := 0) rfl, a, _, _, _, rfl, rfl, SqL.of R'.lst, atI_nat a6, _, rfl, t1, _, _, _, rfl, rfl, SqT.of ht1', atI_nat (j := 1) rfl, c1, _, _, pr.1.2, rfl, rfl, a5, ?_, ?_⟩
        · unfold ixN
          rw [List.length_map, a4, if_pos (by omega), if_pos (by omega)]
          simp
        · refine ⟨some (.ref t), some (.ref t1), some (.ref t2), some (nv (get2 T' pr.2.1 pr.2.2)), ?_, ?_, ?_, ?_, ?_⟩
          · rw [sn]
            unfold lowerOne fellOne
            rw [if_pos hlt, decide_eq_true hlt, Bool.or_true]
            rfl
          · intro b o e nb
            have nbc : b ≠ c1 := fun z => nb (z ▸ mc1)
            rw [upd_ne nbc]; exact kb b o e nb
          · rw [sn]
            unfold lowerOne
            rw [if_pos hlt]
            exact R'.set a1 a2 a3
          · rw [sn]
            exact lowerOne_shape S' ⟨q1, q2, q3, q4⟩
          · have : p ≠ c1 := fun z => npa (by have := (List.getElem?_eq_some_iff.mp hx).1; omega) (z ▸ mc1)
            rw [upd_ne this]; exact hp'
      · have hlt : ¬ get2 T' pr.2.1 pr.2.2 < get2 T' pr.1.1 pr.1.2 := by
          intro z
          exact hlt (decide_eq_true (by dsimp only; omega))
        refine ⟨some (.ref t), some (.ref t1), some (.ref t2), some (nv (get2 T' pr.2.1 pr.2.2)), ?_, kb, ?_, ?_, hp'⟩
        · rw [sn]
          unfold lowerOne fellOne
          rw [if_neg hlt, decide_eq_false hlt, Bool.or_false]
          rfl
        · rw [sn]
          unfold lowerOne
          rw [if_neg hlt]; exact R'
        · rw [sn]
          exact lowerOne_shape S' ⟨q1, q2, q3, q4⟩
    · rintro σ H' ⟨o3, o4, o5, o6, rfl, kb, R', S', hp'⟩
      rw [hvl, List.take_length] at R' S' ⊢
      exact ⟨_, rfl, k H' kb R' S'⟩
end
end Mf

namespace Mf
open PySem PySem.Spec PyProof.Rows L2 Km482
/-- all tuples are as they were -/
def TupKeep (H H' : Hp) : Prop := ∀ b xs, H b = some (.tup xs) → H' b = some (.tup xs)
theorem TupKeep.of {H H' : Hp} (s : Same H H') : TupKeep H H' := fun b xs e => s b _ e
theorem TupKeep.trans {H H1 H2 : Hp} (a : TupKeep H H1) (b : TupKeep H1 H2) : TupKeep H H2 := fun c xs e => b c xs (a c xs e)
theorem TupKeep.lst {H : Hp} {D : Addr} {xs : List V} {o : HO} (h : H D = some (.lst xs)) : TupKeep H (upd H D o) := fun b ys e => by
  have : b ≠ D := ne_of e h (by intro z; cases z)
  rw [upd_ne this]; exact e
theorem tk_Pair {H H' : Hp} {v : V} {p : Nat × Nat} (k : TupKeep H H') (h : isPair H v p) : isPair H' v p := by
  obtain ⟨a, e, h⟩ := h; exact ⟨a, e, k _ _ h⟩
theorem tk_Clause {H H' : Hp} {v : V} {p : Clause} (k : TupKeep H H') (h : isClause H v p) : isClause H' v p := by
  obtain ⟨a, e, h⟩ := h; exact ⟨a, e, k _ _ h⟩
theorem tk_Pr {H H' : Hp} {v : V} {p : Pr} (k : TupKeep H H') (h : isPr H v p) : isPr H' v p := by
  obtain ⟨a, x, y, e, h, h1, h2⟩ := h; exact ⟨a, x, y, e, k _ _ h, tk_Pair k h1, tk_Pair k h2⟩
/-- a new list -/
def NewLst {α : Type} (R : Hp → V → α → Prop) (H H' : Hp) (v : V) (l : List α) : Prop := ∃ a vs, v = .ref a ∧ H a = none ∧ H' a = some (.lst vs) ∧ Paired (R H') vs l
theorem NewLst.lst {α : Type} {R : Hp → V → α → Prop} {H H' : Hp} {v : V} {l : List α} (h : NewLst R H H' v l) : LstOf R H' v l := by
  obtain ⟨a, vs, e, _, h1, h2⟩ := h
  exact ⟨a, vs, e, h1, h2⟩
section
variable {P : Program} {w : World} {K : PySem.W.Frag} {mg : Str → Option Value} {base : Heap} {Cp Cl : Addr}
abbrev s_bounds_of : Stmt := top 30
theorem sc_bounds_of : FnScope ["pact", "clause", "kind", "i", "j", "k"] ["pact", "clause"] (defScope s_bounds_of) := ⟨rfl, rfl, rfl, by decide +kernel, rfl, by decide +kernel, by decide +kernel⟩
def sp_bounds_of (Cp : Addr) : Sp := fun vs H Q _ => ∃ v b vc c, vs = [v, vc] ∧ isPact Cp H v b ∧ isClause H vc c ∧ COk b.n c ∧ b.n ≤ 6 ∧ b.unions.length ≤ 100 ∧ ∀ v' H', Same H H' → NewLst isPair H H' v' (boundsOf b c) → Q v' H'
theorem bounds2 {b : Book} {c : Clause} (h : c.kind = 2) : boundsOf b c = [(c.j, c.i)] := by
  unfold boundsOf Book.under
  rw [if_neg (by simp), if_neg (by omega), if_pos h]
theorem bounds3 {b : Book} {c : Clause} (h : c.kind ≠ 1) (h2 : c.kind ≠ 2) : boundsOf b c = [(c.k, c.j)] := by
  unfold boundsOf Book.under
  rw [if_neg (by simp), if_neg h, if_neg h2]
def favB (b : Book) (i j k : Nat) : Bool := k != i && k != j && !b.union i k
theorem bounds1 {b : Book} {c : Clause} (h : c.kind = 1) : boundsOf b c = ((List.range b.n).filter (favB b c.i c.j)).map fun k => (c.i, k) := by
  unfold boundsOf Book.under
  rw [if_neg (by simp), if_pos h]
  rfl
theorem range_filter_succ (p : Nat → Bool) (i : Nat) : (List.range (i + 1)).filter p = (List.range i).filter p ++ (if p i = true then [i] else []) := by
  rw [List.range_succ, List.filter_append]
  congr 1
  by_cases h : p i = true <;> simp [h]
theorem ok_bounds_of {f : Addr} {fd : FuncData} (F : Fun K "bounds_of" "bounds_of" s_bounds_of f fd) (T : Txt K mg Cp Cl) (C_in_union : Callee P w K mg base "in_union" 2 ["pact", "i", "j"] (sp_in_union Cp)) : FnOk P w K mg base CX0 3 f fd ["pact", "clause"] (sp_bounds_of Cp) := by
  refine F.ok sc_bounds_of (fun vs H Q E h => ?_) (fun cdv A outer s H vs Q E hr h => ?_)
  · obtain ⟨v, b, vc, c, rfl, _⟩ := h
    rfl
  · obtain ⟨v, b, vc, c, rfl, hP, ⟨tc, rfl, htc⟩, hC, hn6, hul, k⟩ := h
    refine ⟨_, (pss_cons (ps_set (i := 2) sc_bounds_of.nd rfl (Or.inl rfl) (pe_ix ix_tup (pv 1) pe_int (fun _ _ => rfl)))
      (pss_cons (ps_set (i := 3) sc_bounds_of.nd rfl (Or.inr rfl) (pe_ix ix_tup (pv 1) pe_int (fun _ _ => rfl)))
      (pss_cons (ps_set (i := 4) sc_bounds_of.nd rfl (Or.inr rfl) (pe_ix ix_tup (pv 1) pe_int (fun _ _ => rfl)))
      (pss_cons (ps_if (pt_cmpR op_eq (pv 2) (pe_gi rfl T.g_MIRROR) (nomark _)) (pss_one (ps_ret (pe_lst (pa_cons (pe_tup (pa_cons (pv 4) (pa_cons (pv 3) pa_nil))) pa_nil)))) pss_nil)
      (pss_cons (ps_if (pt_cmpR op_eq (pv 2) (pe_gi rfl T.g_FOLLOW) (nomark _)) (pss_one (ps_ret (pe_lst (pa_cons (pe_tup (pa_cons (pe_ix ix_tup (pv 1) pe_int (fun _ _ => rfl)) (pa_cons (pv 4) pa_nil))) pa_nil)))) pss_nil)
      (pss_one (ps_ret (pe_lc rfl sc_bounds_of.nd (pi_range1 rfl T.b_range (pa_cons (pe_fld (pv 0) rfl) pa_nil)) (blkOk_by (own := [("k", 5)]) (by show blkC ["pact", "clause", "kind", "i", "j", "k"] (defScope s_bounds_of) _ _ = true; decide +kernel)) (fun _ _ _ _ _ => (pg_name (i := 5) sc_bounds_of.nd rfl (Or.inl rfl))) (fun _ _ _ _ _ => (pts_one (PW.pt (pw_and (pt_cmpR op_ne (pv 5) (pv 3) (nomark _)) (pw_and (pt_cmpR op_ne (pv 5) (pv 4) (nomark _)) (pw_and1 (pt_not (pt_val (pe_callC C_in_union hr rfl (pa_cons (pv 0) (pa_cons (pv 3) (pa_cons (pv 5) pa_nil))))))))))) ) (fun _ _ _ _ _ => (pe_tup (pa_cons (pv 3) (pa_cons (pv 5) pa_nil)))))))))))), ?_⟩
    refine ⟨_, rfl, tc, _, _, _, rfl, rfl, SqT.of htc, atI_nat (j := 0) rfl, ?_⟩
    refine ⟨_, rfl, tc, _, _, _, rfl, rfl, SqT.of htc, atI_nat (j := 1) rfl, ?_⟩
    refine ⟨_, rfl, tc, _, _, _, rfl, rfl, SqT.of htc, atI_nat (j := 2) rfl, ?_⟩
    refine ⟨_, rfl, rfl, _, rfl, ite2 (fun h2 => ?_) (fun h2 => ?_)⟩
    · -- mirror
      have k2 : c.kind = 2 := by
        have := of_decide_eq_true h2
        injection this with this
        omega
      refine ⟨_, rfl, _, rfl, (by show 2 ≤ sizeLine; decide), fun t ht => ⟨(by show 1 ≤ sizeLine; decide), fun l hl => ?_⟩⟩
      have s1 := same_new (o := .tup [nv c.j, nv c.i]) ht
      refine k _ _ (s1.trans (same_new hl)) ⟨l, _, rfl, s1.free hl, upd_same, ?_⟩
      rw [bounds2 k2]
      exact .cons ⟨t, rfl, same_new hl _ _ upd_same⟩ .nil
    have k2 : c.kind ≠ 2 := fun z => h2 (decide_eq_true (by show V.int (c.kind : Int) = V.int 2; rw [z]; rfl))
    refine ⟨_, rfl, rfl, _, rfl, ite2 (fun h3 => ?_) (fun h3 => ?_)⟩
    · -- follow
      have k3 : c.kind = 3 := by
        have := of_decide_eq_true h3
        injection this with this
        omega
      refine ⟨_, rfl, tc, _, _, _, rfl, rfl, SqT.of htc, atI_nat (j := 3) rfl, _, rfl, (by show 2 ≤ sizeLine; decide), fun t ht => ⟨(by show 1 ≤ sizeLine; decide), fun l hl => ?_⟩⟩
      have s1 := same_new (o := .tup [nv c.k, nv c.j]) ht
      refine k _ _ (s1.trans (same_new hl)) ⟨l, _, rfl, s1.free hl, upd_same, ?_⟩
      rw [bounds3 (by omega) k2]
      exact .cons ⟨t, rfl, same_new hl _ _ upd_same⟩ .nil
    have k3 : c.kind ≠ 3 := fun z => h3 (decide_eq_true (by show V.int (c.kind : Int) = V.int 3; rw [z]; rfl))
    have k1 : c.kind = 1 := by
      rcases hC.kd with z | z | z
      · exact z
      · exact absurd z k2
      · exact absurd z k3
    have hP' := hP
    obtain ⟨a, dx, fs, vl, vc', vu, rfl, ha, f1, f2, f3, f4, f5, r1, r2, r3⟩ := hP'
    refine ⟨_, rfl, a, Cp, dx, _, _, rfl, ha, T.cl_Pact, T.a_states, f1, (b.n : Int), rfl, by omega, by omega, fun D hD => lc_range (fun i H' => ∃ vs', Same H H' ∧ H' D = some (.lst vs') ∧ Paired (isPair H') vs' (((List.range i).filter (favB b c.i c.j)).map fun k => (c.i, k)) ∧ vs'.length ≤ i) ?_ ?_ ?_⟩
    · exact ⟨[], same_new hD, upd_same, .nil, Nat.le_refl _⟩
    · rintro i H' hi ⟨vs', s1, hD', pd, hl⟩
      have ei : (0 + (i : Int)) = (i : Int) := by omega
      rw [ei]
      have hi : i < b.n := by omega
      -- the turn's end, where it is left out
      have skip : favB b c.i c.j i = false → ∀ H3, Same H' H3 → ∃ vs', Same H H3 ∧ H3 D = some (.lst vs') ∧ Paired (isPair H3) vs' (((List.range (i + 1)).filter (favB b c.i c.j)).map fun k => (c.i, k)) ∧ vs'.length ≤ i + 1 := by
        intro hb H3 s3
        refine ⟨vs', s1.trans s3, s3 _ _ hD', ?_, by omega⟩
        rw [range_filter_succ, hb, if_neg (by decide), List.append_nil]
        exact Paired.mono (fun v p h => tk_Pair (TupKeep.of s3) h) pd
      refine ⟨rfl, _, rfl, _, rfl, rfl, _, rfl, ite2 (fun e1 => ?_) (fun e1 => ?_)⟩
      · have n1 : i ≠ c.i := fun z => by
          rw [z] at e1
          simp at e1
        refine ⟨_, rfl, _, rfl, rfl, _, rfl, ite2 (fun e2 => ?_) (fun e2 => ?_)⟩
        · have n2 : i ≠ c.j := fun z => by
            rw [z] at e2
            simp at e2
          refine ⟨_, rfl, _, rfl, _, rfl, _, b, c.i, i, rfl, st_Pact T.ne _ _ _ _ (Keep.of s1) ⟨a, dx, fs, vl, vc', vu, rfl, ha, f1, f2, f3, f4, f5, r1, r2, r3⟩, hul, fun H3 s3 => ⟨_, rfl, ite2 (fun e3 => ?_) (fun e3 => ?_)⟩⟩
          · have hb : favB b c.i c.j i = true := by
              unfold favB
              simp [n1, n2]
              simpa using e3
            refine ⟨_, rfl, _, rfl, (by show 2 ≤ sizeLine; decide), fun t ht => ⟨vs', ?_, ?_, vs' ++ [.ref t], ?_, upd_same, ?_, ?_⟩⟩
            · exact same_new ht _ _ (s3 _ _ hD')
            · rw [sizeLine_eq]; omega
            · intro b' o e
              have nb : b' ≠ D := ne_of_none e hD
              rw [upd_ne nb]
              exact same_new ht _ _ (s3 _ _ (s1 _ _ e))
            · rw [range_filter_succ, hb, if_pos rfl, List.map_append]
              have tk : TupKeep (upd H3 t (.tup [nv c.i, nv i])) (upd (upd H3 t (.tup [nv c.i, nv i])) D (.lst (vs' ++ [.ref t]))) := TupKeep.lst (same_new ht _ _ (s3 _ _ hD'))
              refine Paired.snoc (Paired.mono (fun v p h => tk_Pair (((TupKeep.of s3).trans (TupKeep.of (same_new ht))).trans tk) h) pd) ⟨t, rfl, tk _ _ upd_same⟩
            · rw [List.length_append, List.length_singleton]; omega
          · have hb : favB b c.i c.j i = false := by
              unfold favB
              cases q : b.union c.i i with
              | true => simp
              | false => rw [q] at e3; exact absurd rfl e3
            exact skip hb H3 s3
        · have hb : favB b c.i c.j i = false := by
            have z : i = c.j := by
              apply Classical.byContradiction
              intro z
              exact e2 (by simp; omega)
            unfold favB
            simp [z]
          exact skip hb H' (Same.refl H')
      · have hb : favB b c.i c.j i = false := by
          have z : i = c.i := by
            apply Classical.byContradiction
            intro z
            exact e1 (by simp; omega)
          unfold favB
          simp [z]
        exact skip hb H' (Same.refl H')
    · rintro H' ⟨vs', s1, hD', pd, _⟩
      rw [Int.toNat_natCast] at pd
      exact k _ _ s1 ⟨D, vs', rfl, hD, hD', by rw [bounds1 k1]; exact pd⟩
end
end Mf

namespace Mf
open PySem PySem.Spec PyProof.Rows L2 Km482
theorem under_len {b : Book} (i j : Nat) (c : Clause) (h : b.n ≤ 6) : (b.under i j c).length ≤ 6 := by
  unfold Book.under
  split
  · simp
  · split
    · rw [List.length_map]
      refine Nat.le_trans (List.length_filter_le _ _) ?_
      unfold Book.states
      rw [List.length_range]; exact h
    · split <;> simp
section
variable {P : Program} {w : World} {K : PySem.W.Frag} {mg : Str → Option Value} {base : Heap} {Cp Cl : Addr}
abbrev s_bounds_of_all : Stmt := top 31
theorem sc_bounds_of_all : FnScope ["pact", "pairs", "clause", "bound"] ["pact"] (defScope s_bounds_of_all) := ⟨rfl, rfl, rfl, by decide +kernel, rfl, by decide +kernel, by decide +kernel⟩
def sp_bounds_of_all (Cp : Addr) : Sp := fun vs H Q _ => ∃ v b, vs = [v] ∧ isPact Cp H v b ∧ Good b ∧ b.unions.length ≤ 100 ∧ ∀ v' H', Same H H' → NewLst isPr H H' v' (boundsAll b) → Q v' H'
def prsOf (b : Book) (c : Clause) : List Pr := (boundsOf b c).map fun q => ((c.i, c.j), q)
theorem ok_bounds_of_all {f : Addr} {fd : FuncData} (F : Fun K "bounds_of_all" "bounds_of_all" s_bounds_of_all f fd) (T : Txt K mg Cp Cl) (C_bounds_of : Callee P w K mg base "bounds_of" 3 ["pact", "clause"] (sp_bounds_of Cp)) : FnOk P w K mg base CX0 4 f fd ["pact"] (sp_bounds_of_all Cp) := by
  refine F.ok sc_bounds_of_all (fun vs H Q E h => ?_) (fun cdv A outer s H vs Q E hr h => ?_)
  · obtain ⟨v, b, rfl, _⟩ := h
    rfl
  · obtain ⟨v, b, rfl, hP, G, hul, k⟩ := h
    refine ⟨_, (pss_cons (ps_set (i := 1) sc_bounds_of_all.nd rfl (Or.inl rfl) (pe_lst pa_nil))
      (pss_cons (ps_for PassesOwn.never rfl (pi_list (pe_fld (pv 0) rfl)) (pg_name (i := 2) sc_bounds_of_all.nd rfl (Or.inl rfl))
      (pss_one (ps_for PassesOwn.never rfl (pi_list (pe_callC C_bounds_of hr rfl (pa_cons (pv 0) (pa_cons (pv 2) pa_nil)))) (pg_name (i := 3) sc_bounds_of_all.nd rfl (Or.inl rfl))
      (pss_one (ps_expr (pe_bm PySem.F.plainAttrs_list PySem.F.slot_list_append PySem.F.type_list_append mt_append (pv 1) (pa_cons (pe_tup (pa_cons (pe_tup (pa_cons (pe_ix ix_tup (pv 2) pe_int (fun _ _ => rfl)) (pa_cons (pe_ix ix_tup (pv 2) pe_int (fun _ _ => rfl)) pa_nil))) (pa_cons (pv 3) pa_nil))) pa_nil)))))))
      (pss_one (ps_ret (pv 1))))), ?_⟩
    refine ⟨Nat.zero_le _, fun D hD => ?_⟩
    have hP0 := hP
    obtain ⟨a, dx, fs, vl, vc, vu, rfl, ha, f1, f2, f3, f4, f5, r1, ⟨lc, cvs, rfl, hlc, hcs⟩, r3⟩ := hP0
    have s0 : Same H (upd H D (.lst [])) := same_new hD
    have hcl := pd_len hcs
    refine ⟨_, rfl, a, Cp, dx, _, _, rfl, s0 _ _ ha, T.cl_Pact, T.a_clauses, f4, lc, rfl, ⟨_, SqL.of (s0 _ _ hlc)⟩, for_list (K := K) (a := lc) (xs := cvs) (fun i σ H' => ∃ (o2 o3 : Option V) (vs' : List V), σ = [some (.ref a), some (.ref D), o2, o3] ∧ Same H H' ∧ H' D = some (.lst vs') ∧
      Paired (isPr H') vs' ((b.clauses.take i).flatMap (prsOf b)) ∧ vs'.length ≤ 6 * i) ?_ ?_ ?_ ?_⟩
    · exact ⟨none, none, [], rfl, s0, upd_same, .nil, Nat.zero_le _⟩
    · rintro i σ H' _ ⟨_, _, _, _, s1, _⟩
      exact SqL.of (s1 _ _ hlc)
    · rintro i x σ H' hx ⟨o2, o3, vs', rfl, s1, hD', pd, hl⟩
      obtain ⟨c, hci, tc, rfl, htc⟩ := pd_get hcs hx
      have hi16 : i < 16 := by
        have := (List.getElem?_eq_some_iff.mp hci).1
        have := G.cl
        omega
      refine ⟨_, rfl, _, rfl, _, b, _, c, rfl, st_Pact T.ne _ _ _ _ (Keep.of s1) hP, ⟨tc, rfl, s1 _ _ htc⟩, G.cok c (List.mem_of_getElem? hci), G.n6, hul, fun v2 H2 s2 hv2 => ?_⟩
      obtain ⟨lb, bvs, rfl, nlb, hlb, hbs⟩ := hv2
      have hbl := pd_len hbs
      have hD2 := s2 _ _ hD'
      have hblen : (boundsOf b c).length ≤ 6 := under_len _ _ _ G.n6
      have nlD : lb ≠ D := fun z => by rw [z, hD'] at nlb; cases nlb
      refine ⟨lb, rfl, ⟨_, SqL.of hlb⟩, for_list (K := K) (a := lb) (xs := bvs) (fun j σ H3 => ∃ (o3 : Option V) (vs2 : List V), σ = [some (.ref a), some (.ref D), some (.ref tc), o3] ∧ (∀ b' o, H2 b' = some o → b' ≠ D → H3 b' = some o) ∧ H3 D = some (.lst vs2) ∧
        Paired (isPr H3) vs2 ((b.clauses.take i).flatMap (prsOf b) ++ ((boundsOf b c).take j).map fun q => ((c.i, c.j), q)) ∧ vs2.length ≤ 6 * i + j) ?_ ?_ ?_ ?_⟩
      · refine ⟨o3, vs', rfl, fun b' o e _ => e, hD2, ?_, by omega⟩
        rw [List.take_zero, List.map_nil, List.append_nil]
        exact Paired.mono (fun v p h => tk_Pr (TupKeep.of s2) h) pd
      · rintro j σ H3 _ ⟨_, _, _, kb, _⟩
        exact SqL.of (kb _ _ hlb nlD)
      · rintro j y σ H3 hy ⟨o3', vs2, rfl, kb, hD3, pd3, hl3⟩
        obtain ⟨q, hq, hyq⟩ := pd_get hbs hy
        have tk3 : TupKeep H2 H3 := fun b' xs e => kb _ _ e (ne_of e hD2 (by intro z; cases z))
        have htc3 : H3 tc = some (.tup [nv c.kind, nv c.i, nv c.j, nv c.k]) := tk3 _ _ (s2 _ _ (s1 _ _ htc))
        have hj6 : j < 6 := by
          have := (List.getElem?_eq_some_iff.mp hq).1
          omega
        refine ⟨_, rfl, .inl ⟨rfl, _, SqL.of hD3⟩, _, rfl, tc, _, _, _, rfl, rfl, SqT.of htc3, atI_nat (j := 1) rfl, _, rfl, tc, _, _, _, rfl, rfl, SqT.of htc3, atI_nat (j := 2) rfl, (by show 2 ≤ sizeLine; decide), fun t1 n1 => ⟨_, rfl, (by show 2 ≤ sizeLine; decide), fun t2 n2 => ?_⟩⟩
        have s4 : Same H3 (upd (upd H3 t1 (.tup [nv c.i, nv c.j])) t2 (.tup [.ref t1, y])) := (same_new n1).trans (same_new n2)
        have hD4 := s4 _ _ hD3
        refine ⟨D, vs2, _, rfl, rfl, hD4, by rw [sizeLine_eq]; omega, ?_⟩
        have tk5 : TupKeep (upd (upd H3 t1 (.tup [nv c.i, nv c.j])) t2 (.tup [.ref t1, y])) (upd (upd (upd H3 t1 (.tup [nv c.i, nv c.j])) t2 (.tup [.ref t1, y])) D (.lst (vs2 ++ [.ref t2]))) := TupKeep.lst hD4
        refine ⟨some y, vs2 ++ [.ref t2], rfl, ?_, upd_same, ?_, ?_⟩
        · intro b' o e nb
          rw [upd_ne nb]
          exact s4 _ _ (kb _ _ e nb)
        · rw [take_snoc hq, List.map_append, ← List.append_assoc]
          refine Paired.snoc (Paired.mono (fun v p h => tk_Pr ((TupKeep.of s4).trans tk5) h) pd3) ⟨t2, .ref t1, y, rfl, tk5 _ _ upd_same, ⟨t1, rfl, tk5 _ _ (same_new n2 _ _ upd_same)⟩, tk_Pair ((tk3.trans (TupKeep.of s4)).trans tk5) hyq⟩
        · rw [List.length_append, List.length_singleton]; omega
      · rintro σ H3 ⟨o3', vs2, rfl, kb, hD3, pd3, hl3⟩
        rw [hbl, List.take_length] at pd3
        refine ⟨_, o3', vs2, rfl, fun b' o e => kb _ _ (s2 _ _ (s1 _ _ e)) (ne_of_none e hD), hD3, ?_, by omega⟩
        rw [take_snoc hci, List.flatMap_append, List.flatMap_cons, List.flatMap_nil, List.append_nil]
        exact pd3
    · rintro σ H' ⟨o2, o3, vs', rfl, s1, hD', pd, _⟩
      rw [hcl, List.take_length] at pd
      exact ⟨_, rfl, k _ _ s1 ⟨D, vs', rfl, hD, hD', pd⟩⟩
end
end Mf

namespace Mf
open PySem PySem.Spec PyProof.Rows L2 Km482
theorem good_ulen {b : Book} (G : Good b) : b.unions.length ≤ 100 := by
  have h := len_le (n := b.n) G.und fun q hq => by
    have := G.uok q hq
    exact ⟨by omega, this.2⟩
  have h6 := G.n6
  have : b.n * b.n ≤ 6 * 6 := Nat.mul_le_mul h6 h6
  omega
theorem KeepBut.tup {H0 H H' : Hp} {a : Addr} {as : List Addr} {T : List (List Nat)} (R : RowsAt H0 H a as T) (k : KeepBut as H H') : TupKeep H H' := fun b xs e => k b _ e fun z => by
  obtain ⟨j, hj⟩ := List.getElem?_of_mem z
  obtain ⟨r, _, e2⟩ := pd_get R.rw_ hj
  rw [e] at e2; cases e2
theorem pr_ok {b : Book} (G : Good b) : ∀ p ∈ boundsAll b, prOk b.n p := fun p hp => by
  obtain ⟨h2, h1⟩ := unders_pairB G (boundsAll_mem.mp hp)
  exact ⟨h1.1, h1.2.1, h2.1, h2.2.1⟩
section
variable {P : Program} {w : World} {K : PySem.W.Frag} {mg : Str → Option Value} {base : Heap} {Cp Cl : Addr}
abbrev s_taken_of : Stmt := top 34
theorem sc_taken_of : FnScope ["pact", "g", "takes", "pairs", "falling"] ["pact", "g"] (defScope s_taken_of) := ⟨rfl, rfl, rfl, by decide +kernel, rfl, by decide +kernel, by decide +kernel⟩
def sp_taken_of (Cp : Addr) : Sp := fun vs H Q _ => ∃ v b g, vs = [v, nv g] ∧ isPact Cp H v b ∧ Good b ∧ g < b.m ∧ ∀ H' a as, Same H H' → RowsAt H H' a as (takenRows b g) → Q (.ref a) H'
theorem ok_taken_of {f : Addr} {fd : FuncData} (F : Fun K "taken_of" "taken_of" s_taken_of f fd) (T : Txt K mg Cp Cl) (C_copy_rows : Callee P w K mg base "copy_rows" 1 ["rows"] sp_copy_rows) (C_bounds_of_all : Callee P w K mg base "bounds_of_all" 4 ["pact"] (sp_bounds_of_all Cp))
    (C_lower_once : Callee P w K mg base "lower_once" 1 ["takes", "pairs"] sp_lower_once) : FnOk P w K mg base CX0 5 f fd ["pact", "g"] (sp_taken_of Cp) := by
  refine F.ok sc_taken_of (fun vs H Q E h => ?_) (fun cdv A outer s H vs Q E hr h => ?_)
  · obtain ⟨v, b, g, rfl, _⟩ := h
    rfl
  · obtain ⟨v, b, g, rfl, hP, G, hg, k⟩ := h
    refine ⟨_, (pss_cons (ps_set (i := 2) sc_taken_of.nd rfl (Or.inl rfl) (pe_callC C_copy_rows hr rfl (pa_cons (pe_ix ix_list (pe_fld (pv 0) rfl) (pv 1) (fun _ _ => rfl)) pa_nil)))
      (pss_cons (ps_set (i := 3) sc_taken_of.nd rfl (Or.inl rfl) (pe_callC C_bounds_of_all hr rfl (pa_cons (pv 0) pa_nil)))
      (pss_cons (ps_set (i := 4) sc_taken_of.nd rfl (Or.inl rfl) pe_bl)
      (pss_cons (ps_while PassesOwn.never (pt_val (pv 4)) (pss_one (ps_set (i := 4) sc_taken_of.nd rfl (Or.inl rfl) (pe_callC C_lower_once hr rfl (pa_cons (pv 2) (pa_cons (pv 3) pa_nil))))))
      (pss_one (ps_ret (pv 2))))))), ?_⟩
    have hP0 := hP
    obtain ⟨a, dx, fs, vl, vc, vu, rfl, ha, f1, f2, f3, f4, f5, ⟨ll, lvs, rfl, hll, hlp⟩, r2, r3⟩ := hP0
    have hrow : (laid3 b)[g]? = some (laidRows b g) := by
      unfold laid3
      rw [List.getElem?_map, range_get hg]; rfl
    obtain ⟨vr, hvr, hrr⟩ := pd_get' hlp hrow
    have sh : Shape b.n (laidRows b g) := rows_shape _ _
    refine ⟨_, rfl, a, Cp, dx, _, _, rfl, ha, T.cl_Pact, T.a_laid, f3, _, rfl, ll, _, _, _, rfl, rfl, SqL.of hll, atI_nat hvr, vr, laidRows b g, rfl, hrr, (by rw [sh.1]; have := G.n6; omega), fun H1 ta as s1 R1 => ?_⟩
    refine ⟨_, rfl, _, b, rfl, st_Pact T.ne _ _ _ _ (Keep.of s1) hP, G, good_ulen G, fun vp H2 s2 hvp => ?_⟩
    obtain ⟨p, pvs, rfl, np, hp, hpp⟩ := hvp
    have hpas : p ∉ as := fun z => by
      obtain ⟨j, hj⟩ := List.getElem?_of_mem z
      obtain ⟨r, _, e2⟩ := pd_get R1.rw_ hj
      rw [np] at e2; cases e2
    have R2 : RowsAt H H2 ta as (laidRows b g) := ⟨s2 _ _ R1.lst, Paired.mono (fun c r e => s2 _ _ e) R1.rw_, R1.nd, R1.fa, R1.fr, R1.na⟩
    -- while falling
    refine ⟨fun m σ H' => ∃ Tb fl, σ = [some (.ref a), some (nv g), some (.ref ta), some (.ref p), some (.bl fl)] ∧ Same H H' ∧ RowsAt H H' ta as Tb ∧ Low b g Tb ∧ H' p = some (.lst pvs) ∧ Paired (isPr H') pvs (boundsAll b) ∧
      ((fl = true ∧ m = total Tb + 1) ∨ (fl = false ∧ m = 0 ∧ ∀ q ∈ boundsAll b, get2 Tb q.1.1 q.1.2 ≤ get2 Tb q.2.1 q.2.2)), ⟨_, laidRows b g, true, rfl, s1.trans s2, R2, low_start G hg, hp, hpp, .inl ⟨rfl, rfl⟩⟩, ?_⟩
    rintro m σ H' ⟨Tb, fl, rfl, s3, R3, L3, hp3, hpp3, hm⟩
    refine ⟨_, rfl, fl, rfl, ?_⟩
    rcases hm with ⟨rfl, rfl⟩ | ⟨rfl, rfl, hkeep⟩
    · -- one more pass
      refine iteT ⟨fun σ' H'' => ∃ Tb' fl', σ' = [some (.ref a), some (nv g), some (.ref ta), some (.ref p), some (.bl fl')] ∧ Same H H'' ∧ RowsAt H H'' ta as Tb' ∧ Low b g Tb' ∧ H'' p = some (.lst pvs) ∧ Paired (isPr H'') pvs (boundsAll b) ∧
        ((fl' = true ∧ total Tb' < total Tb) ∨ (fl' = false ∧ ∀ q ∈ boundsAll b, get2 Tb' q.1.1 q.1.2 ≤ get2 Tb' q.2.1 q.2.2)), ?_, ?_⟩
      · rintro σ' H'' ⟨Tb', fl', rfl, h1, h2, h3, h4, h5, h6⟩
        rcases h6 with ⟨rfl, h6⟩ | ⟨rfl, h6⟩
        · exact ⟨total Tb' + 1, by omega, Tb', true, rfl, h1, h2, h3, h4, h5, .inl ⟨rfl, rfl⟩⟩
        · exact ⟨0, by omega, Tb', false, rfl, h1, h2, h3, h4, h5, .inr ⟨rfl, rfl, h6⟩⟩
      · refine ⟨_, rfl, _, rfl, H, ta, as, Tb, b.n, _, boundsAll b, rfl, R3, L3.sh, by have := G.n2; omega, ⟨p, pvs, rfl, hp3, hpp3⟩, pr_ok G, fun H4 kb R4 S4 => ?_⟩
        have L4 := Low.all G (boundsAll b) (fun _ h => h) (Tb, false) L3
        obtain ⟨_, _, ps⟩ := pass G (boundsAll b) (fun _ h => h) Tb false L3
        refine ⟨_, _, rfl, fun b' o e => kb _ _ (s3 _ _ e) fun z => ?_, R4, L4, kb _ _ hp3 hpas, Paired.mono (fun v q h => tk_Pr (KeepBut.tup R3 kb) h) hpp3, ?_⟩
        · rw [R1.fr b' z] at e; cases e
        · rcases ps with ⟨e1, e2, e3⟩ | ⟨e1, e2⟩
          · right
            refine ⟨e1, ?_⟩
            rw [e2]; exact e3
          · left
            refine ⟨e1, ?_⟩
            rcases e2 with z | z
            · cases z
            · exact z
    · refine iteF ⟨_, rfl, ?_⟩
      rw [low_end G L3 hkeep] at R3
      exact k H' ta as s3 R3
end
end Mf

namespace Mf
open PySem PySem.Spec PyProof.Rows L2 Km482
section
variable {P : Program} {w : World} {K : PySem.W.Frag} {mg : Str → Option Value} {base : Heap} {Cp Cl : Addr}
abbrev s_has_good : Stmt := top 15
theorem sc_has_good : FnScope ["pact", "g"] ["pact", "g"] (defScope s_has_good) := ⟨rfl, rfl, rfl, by decide +kernel, rfl, by decide +kernel, by decide +kernel⟩
def sp_has_good (Cp : Addr) : Sp := fun vs H Q _ => ∃ v b i, vs = [v, nv i] ∧ isPact Cp H v b ∧ Q (.bl (decide ((i : Int) < (b.m : Int)))) H
theorem ok_has_good {f : Addr} {fd : FuncData} (F : Fun K "has_good" "has_good" s_has_good f fd) (T : Txt K mg Cp Cl) : FnOk P w K mg base CX0 1 f fd ["pact", "g"] (sp_has_good Cp) := by
  refine F.ok sc_has_good (fun vs H Q E h => ?_) (fun cdv A outer s H vs Q E hr h => ?_)
  · obtain ⟨v, b, i, rfl, _⟩ := h
    rfl
  · obtain ⟨v, b, i, rfl, ⟨a, dx, fs, vl, vc, vu, rfl, ha, f1, f2, f3, f4, f5, r1, r2, r3⟩, k⟩ := h
    refine ⟨_, (pss_one (ps_ret (pe_cmpR op_lt (pv 1) (pe_fld (pv 0) rfl) (nomark _)))), ?_⟩
    exact ⟨_, rfl, _, rfl, a, Cp, dx, _, _, rfl, ha, T.cl_Pact, T.a_goods, f2, _, _, rfl, rfl, k⟩
abbrev s_refusal_of_two : Stmt := top 25
theorem sc_refusal_of_two : FnScope ["pact", "i", "j"] ["pact", "i", "j"] (defScope s_refusal_of_two) := ⟨rfl, rfl, rfl, by decide +kernel, rfl, by decide +kernel, by decide +kernel⟩
/-- the refusal of two states -/
def ref2 (b : Book) (i j : Nat) : Int := if b.n ≤ i ∨ b.n ≤ j then -2 else if i = j then -22 else 0
def sp_refusal_of_two (Cp : Addr) : Sp := fun vs H Q _ => ∃ v b i j, vs = [v, nv i, nv j] ∧ isPact Cp H v b ∧ Q (.int (ref2 b i j)) H
theorem ok_refusal_of_two {f : Addr} {fd : FuncData} (F : Fun K "refusal_of_two" "refusal_of_two" s_refusal_of_two f fd) (T : Txt K mg Cp Cl) (C_has_state : Callee P w K mg base "has_state" 1 ["pact", "i"] (sp_has_state Cp)) : FnOk P w K mg base CX0 2 f fd ["pact", "i", "j"] (sp_refusal_of_two Cp) := by
  refine F.ok sc_refusal_of_two (fun vs H Q E h => ?_) (fun cdv A outer s H vs Q E hr h => ?_)
  · obtain ⟨v, b, i, j, rfl, _⟩ := h
    rfl
  · obtain ⟨v, b, i, j, rfl, hP, k⟩ := h
    refine ⟨_, (pss_cons (ps_if (PW.pt (pw_or (pt_not (pt_val (pe_callC C_has_state hr rfl (pa_cons (pv 0) (pa_cons (pv 1) pa_nil))))) (pw_or1 (pt_not (pt_val (pe_callC C_has_state hr rfl (pa_cons (pv 0) (pa_cons (pv 2) pa_nil)))))))) (pss_one (ps_ret (pe_gi rfl T.g_NONE_THERE))) pss_nil)
      (pss_cons (ps_if (pt_cmpR op_eq (pv 1) (pv 2) (nomark _)) (pss_one (ps_ret (pe_gi rfl T.g_UNFIT))) pss_nil) (pss_one (ps_ret (pe_gi rfl T.g_NO_REFUSAL))))), ?_⟩
    have last : i < b.n → j < b.n → (tSeq (tIfS (tTest (tOp rEq (tVar 1) (tVar 2))) (tRet (tC (.int (-22)))) tNext) (tRet (tC (.int 0)))) { nx := fun _ H' => Q .non H', rt := Q } [some v, some (nv i), some (nv j)] H := by
      intro h1 h2
      refine ⟨_, rfl, _, rfl, rfl, _, rfl, ite2 (fun e => ?_) (fun e => ?_)⟩
      · have z : i = j := by
          have := of_decide_eq_true e
          injection this with this
          omega
        show Q (.int (-22)) H
        have e2 : ref2 b i j = -22 := by unfold ref2; rw [if_neg (by omega), if_pos z]
        rw [← e2]; exact k
      · have z : i ≠ j := fun z => e (by rw [z]; simp)
        show Q (.int 0) H
        have e2 : ref2 b i j = 0 := by unfold ref2; rw [if_neg (by omega), if_neg z]
        rw [← e2]; exact k
    have no : ¬ (i < b.n ∧ j < b.n) → Q (.int (-2)) H := by
      intro h
      have e2 : ref2 b i j = -2 := by unfold ref2; rw [if_pos (by omega)]
      rw [← e2]; exact k
    refine ⟨_, rfl, _, rfl, v, b, i, rfl, hP, _, rfl, ite2 (fun e => ?_) (fun e => ?_)⟩
    · exact no fun z => by simp at e; omega
    · have h1 : i < b.n := by simp at e; omega
      refine ⟨_, rfl, _, rfl, v, b, j, rfl, hP, _, rfl, ite2 (fun e2 => ?_) (fun e2 => ?_)⟩
      · exact no fun z => by simp at e2; omega
      · exact last h1 (by simp at e2; omega)
abbrev s_refusal_of_duty : Stmt := top 26
theorem sc_refusal_of_duty : FnScope ["pact", "i", "j", "g"] ["pact", "i", "j", "g"] (defScope s_refusal_of_duty) := ⟨rfl, rfl, rfl, by decide +kernel, rfl, by decide +kernel, by decide +kernel⟩
def ref3 (b : Book) (i j g : Nat) : Int := if b.m ≤ g then -2 else ref2 b i j
def sp_refusal_of_duty (Cp : Addr) : Sp := fun vs H Q _ => ∃ v b i j g, vs = [v, nv i, nv j, nv g] ∧ isPact Cp H v b ∧ Q (.int (ref3 b i j g)) H
theorem ok_refusal_of_duty {f : Addr} {fd : FuncData} (F : Fun K "refusal_of_duty" "refusal_of_duty" s_refusal_of_duty f fd) (T : Txt K mg Cp Cl) (C_has_good : Callee P w K mg base "has_good" 1 ["pact", "g"] (sp_has_good Cp)) (C_refusal_of_two : Callee P w K mg base "refusal_of_two" 2 ["pact", "i", "j"] (sp_refusal_of_two Cp)) : FnOk P w K mg base CX0 3 f fd ["pact", "i", "j", "g"] (sp_refusal_of_duty Cp) := by
  refine F.ok sc_refusal_of_duty (fun vs H Q E h => ?_) (fun cdv A outer s H vs Q E hr h => ?_)
  · obtain ⟨v, b, i, j, g, rfl, _⟩ := h
    rfl
  · obtain ⟨v, b, i, j, g, rfl, hP, k⟩ := h
    refine ⟨_, (pss_cons (ps_if (pt_not (pt_val (pe_callC C_has_good hr rfl (pa_cons (pv 0) (pa_cons (pv 3) pa_nil))))) (pss_one (ps_ret (pe_gi rfl T.g_NONE_THERE))) pss_nil) (pss_one (ps_ret (pe_callC C_refusal_of_two hr rfl (pa_cons (pv 0) (pa_cons (pv 1) (pa_cons (pv 2) pa_nil))))))), ?_⟩
    refine ⟨_, rfl, _, rfl, v, b, g, rfl, hP, _, rfl, ite2 (fun e => ?_) (fun e => ?_)⟩
    · show Q (.int (-2)) H
      have e2 : ref3 b i j g = -2 := by unfold ref3; rw [if_pos (by simp at e; omega)]
      rw [← e2]; exact k
    · refine ⟨_, rfl, _, rfl, _, rfl, v, b, i, j, rfl, hP, ?_⟩
      have e2 : ref3 b i j g = ref2 b i j := by unfold ref3; rw [if_neg (by simp at e; omega)]
      rw [← e2]; exact k
abbrev s_refusal_of_laying : Stmt := top 27
theorem sc_refusal_of_laying : FnScope ["pact", "i", "j", "g", "x", "refusal"] ["pact", "i", "j", "g", "x"] (defScope s_refusal_of_laying) := ⟨rfl, rfl, rfl, by decide +kernel, rfl, by decide +kernel, by decide +kernel⟩
def ref4 (b : Book) (i j g x : Nat) : Int := if ref3 b i j g = 0 ∧ 100 < x then -22 else ref3 b i j g
def sp_refusal_of_laying (Cp : Addr) : Sp := fun vs H Q _ => ∃ v b i j g x, vs = [v, nv i, nv j, nv g, nv x] ∧ isPact Cp H v b ∧ Q (.int (ref4 b i j g x)) H
theorem ok_refusal_of_laying {f : Addr} {fd : FuncData} (F : Fun K "refusal_of_laying" "refusal_of_laying" s_refusal_of_laying f fd) (T : Txt K mg Cp Cl) (C_refusal_of_duty : Callee P w K mg base "refusal_of_duty" 3 ["pact", "i", "j", "g"] (sp_refusal_of_duty Cp)) : FnOk P w K mg base CX0 4 f fd ["pact", "i", "j", "g", "x"] (sp_refusal_of_laying Cp) := by
  refine F.ok sc_refusal_of_laying (fun vs H Q E h => ?_) (fun cdv A outer s H vs Q E hr h => ?_)
  · obtain ⟨v, b, i, j, g, x, rfl, _⟩ := h
    rfl
  · obtain ⟨v, b, i, j, g, x, rfl, hP, k⟩ := h
    refine ⟨_, (pss_cons (ps_set (i := 5) sc_refusal_of_laying.nd rfl (Or.inl rfl) (pe_callC C_refusal_of_duty hr rfl (pa_cons (pv 0) (pa_cons (pv 1) (pa_cons (pv 2) (pa_cons (pv 3) pa_nil))))))
      (pss_cons (ps_if (PW.pt (pw_and (pt_cmpR op_eq (pv 5) (pe_gi rfl T.g_NO_REFUSAL) (nomark _)) (pw_and1 (pt_cmpR op_gt (pv 4) (pe_gi rfl T.g_HIGHEST_DUTY) (nomark _))))) (pss_one (ps_ret (pe_gi rfl T.g_UNFIT))) pss_nil)
      (pss_one (ps_ret (pv 5))))), ?_⟩
    refine ⟨_, rfl, _, rfl, _, rfl, _, rfl, v, b, i, j, g, rfl, hP, ?_⟩
    refine ⟨_, rfl, rfl, _, rfl, ?_⟩
    by_cases e : ref3 b i j g = 0
    · rw [e]
      refine iteT ⟨_, rfl, _, _, rfl, rfl, _, rfl, ite2 (fun z => ?_) (fun z => ?_)⟩
      · have z := of_decide_eq_true z
        have e2 : ref4 b i j g x = -22 := by unfold ref4; rw [if_pos ⟨e, by omega⟩]
        rw [e2] at k; exact k
      · have z : ¬ (100 : Int) < (x : Int) := fun q => z (decide_eq_true q)
        refine ⟨_, rfl, ?_⟩
        have e2 : ref4 b i j g x = 0 := by unfold ref4; rw [if_neg (by omega), e]
        rw [e2] at k; exact k
    · have e2 : ref4 b i j g x = ref3 b i j g := by unfold ref4; rw [if_neg (fun z => e z.1)]
      have e3 : decide (V.int (ref3 b i j g) = V.int 0) = false := decide_eq_false (fun z => e (by injection z))
      rw [e3]
      exact iteF ⟨_, rfl, e2 ▸ k⟩
abbrev s_refusal_of_row : Stmt := top 28
theorem sc_refusal_of_row : FnScope ["pact", "i", "g"] ["pact", "i", "g"] (defScope s_refusal_of_row) := ⟨rfl, rfl, rfl, by decide +kernel, rfl, by decide +kernel, by decide +kernel⟩
def refR (b : Book) (i g : Nat) : Int := if b.n ≤ i ∨ b.m ≤ g then -2 else 0
def sp_refusal_of_row (Cp : Addr) : Sp := fun vs H Q _ => ∃ v b i g, vs = [v, nv i, nv g] ∧ isPact Cp H v b ∧ Q (.int (refR b i g)) H
theorem ok_refusal_of_row {f : Addr} {fd : FuncData} (F : Fun K "refusal_of_row" "refusal_of_row" s_refusal_of_row f fd) (T : Txt K mg Cp Cl) (C_has_state : Callee P w K mg base "has_state" 1 ["pact", "i"] (sp_has_state Cp)) (C_has_good : Callee P w K mg base "has_good" 1 ["pact", "g"] (sp_has_good Cp)) : FnOk P w K mg base CX0 2 f fd ["pact", "i", "g"] (sp_refusal_of_row Cp) := by
  refine F.ok sc_refusal_of_row (fun vs H Q E h => ?_) (fun cdv A outer s H vs Q E hr h => ?_)
  · obtain ⟨v, b, i, g, rfl, _⟩ := h
    rfl
  · obtain ⟨v, b, i, g, rfl, hP, k⟩ := h
    refine ⟨_, (pss_cons (ps_if (PW.pt (pw_or (pt_not (pt_val (pe_callC C_has_state hr rfl (pa_cons (pv 0) (pa_cons (pv 1) pa_nil))))) (pw_or1 (pt_not (pt_val (pe_callC C_has_good hr rfl (pa_cons (pv 0) (pa_cons (pv 2) pa_nil)))))))) (pss_one (ps_ret (pe_gi rfl T.g_NONE_THERE))) pss_nil)
      (pss_one (ps_ret (pe_gi rfl T.g_NO_REFUSAL)))), ?_⟩
    have no : b.n ≤ i ∨ b.m ≤ g → Q (.int (-2)) H := fun h => by
      have e2 : refR b i g = -2 := by unfold refR; rw [if_pos h]
      rw [← e2]; exact k
    refine ⟨_, rfl, _, rfl, v, b, i, rfl, hP, _, rfl, ite2 (fun e => ?_) (fun e => ?_)⟩
    · exact no (.inl (by simp at e; omega))
    · refine ⟨_, rfl, _, rfl, v, b, g, rfl, hP, _, rfl, ite2 (fun e2 => ?_) (fun e2 => ?_)⟩
      · exact no (.inr (by simp at e2; omega))
      · have e3 : refR b i g = 0 := by unfold refR; rw [if_neg (by simp at e e2; omega)]
        show Q (.int 0) H
        rw [← e3]; exact k
end
end Mf

namespace Mf
open PySem PySem.Spec PyProof.Rows L2 Km482
/-- a list of tables of one's own: all its lists differ, and none stood in H0 -/
structure TabsAt (H0 H : Hp) (D : Addr) (ts : List (Addr × List Addr)) (tabs : List (List (List Nat))) : Prop where
  lst : H D = some (.lst (ts.map fun t => V.ref t.1))
  at_ : Paired (fun t rows => H t.1 = some (.lst (t.2.map V.ref)) ∧ Paired (fun c r => H c = some (.lst (List.map nv r))) t.2 rows) ts tabs
  nd : (ts.flatMap fun t => t.1 :: t.2).Nodup
  fr : ∀ c ∈ ts.flatMap (fun t => t.1 :: t.2), H0 c = none
  fD : H0 D = none
  nD : D ∉ ts.flatMap fun t => t.1 :: t.2
theorem nodup_app {α : Type} {l r : List α} (h1 : l.Nodup) (h2 : r.Nodup) (h3 : ∀ x ∈ l, x ∉ r) : (l ++ r).Nodup := by
  rw [List.nodup_append]
  exact ⟨h1, h2, fun a ha b hb e => h3 a ha (e ▸ hb)⟩
/-- of lists without two alike, laid one behind another -/
theorem nd_row {t : Addr × List Addr} : ∀ {ts : List (Addr × List Addr)} {g : Nat}, (ts.flatMap fun t => t.1 :: t.2).Nodup → ts[g]? = some t → t.2.Nodup
  | [], g, _, e => by simp at e
  | s :: ts, 0, nd, e => by
    have z : s = t := by simpa using e
    subst z
    rw [List.flatMap_cons, List.nodup_append] at nd
    exact (List.nodup_cons.mp nd.1).2
  | s :: ts, g + 1, nd, e => by
    rw [List.flatMap_cons, List.nodup_append] at nd
    exact nd_row (ts := ts) nd.2.1 (by simpa using e)
theorem ne_of_nd {t : Addr × List Addr} {c : Addr} {i : Nat} : ∀ {ts : List (Addr × List Addr)} {g : Nat}, (ts.flatMap fun t => t.1 :: t.2).Nodup → ts[g]? = some t → t.2[i]? = some c → t.1 ≠ c
  | [], g, _, e, _ => by simp at e
  | s :: ts, 0, nd, e, hc => by
    have z : s = t := by simpa using e
    subst z
    rw [List.flatMap_cons, List.nodup_append] at nd
    intro z
    exact (List.nodup_cons.mp nd.1).1 (z ▸ List.mem_of_getElem? hc)
  | s :: ts, g + 1, nd, e, hc => by
    rw [List.flatMap_cons, List.nodup_append] at nd
    exact ne_of_nd (ts := ts) nd.2.1 (by simpa using e) hc
theorem nd_other {t t' : Addr × List Addr} {c : Addr} : ∀ {ts : List (Addr × List Addr)} {g q : Nat}, (ts.flatMap fun t => t.1 :: t.2).Nodup → ts[g]? = some t → ts[q]? = some t' → g ≠ q → c ∈ t.1 :: t.2 → c ∉ t'.1 :: t'.2
  | [], g, q, _, e, _, _, _ => by simp at e
  | s :: ts, 0, 0, _, _, _, ne, _ => absurd rfl ne
  | s :: ts, 0, q + 1, nd, e, e', _, hc => by
    have z : s = t := by simpa using e
    subst z
    rw [List.flatMap_cons, List.nodup_append] at nd
    intro h
    exact nd.2.2 c hc c (List.mem_flatMap.mpr ⟨t', List.mem_of_getElem? (show ts[q]? = some t' by simpa using e'), h⟩) rfl
  | s :: ts, g + 1, 0, nd, e, e', _, hc => by
    have z : s = t' := by simpa using e'
    subst z
    rw [List.flatMap_cons, List.nodup_append] at nd
    intro h
    exact nd.2.2 c h c (List.mem_flatMap.mpr ⟨t, List.mem_of_getElem? (show ts[g]? = some t by simpa using e), hc⟩) rfl
  | s :: ts, g + 1, q + 1, nd, e, e', ne, hc => by
    rw [List.flatMap_cons, List.nodup_append] at nd
    exact nd_other (ts := ts) nd.2.1 (by simpa using e) (by simpa using e') (fun z => ne (by omega)) hc
theorem laid3_set {b : Book} (G : Good b) {i j g x : Nat} (hi : i < b.n) (hj : j < b.n) (hg : g < b.m) : laid3 (b.set i j g x) = (laid3 b).set g (set2 (laidRows b g) i j x) := by
  apply List.ext_getElem?
  intro k
  unfold laid3
  show ((List.range b.m).map (laidRows (b.set i j g x)))[k]? = _
  by_cases hk : k < b.m
  · rw [List.getElem?_map, range_get hk]
    by_cases e : k = g
    · subst e
      rw [List.getElem?_set_self (by rw [List.length_map, List.length_range]; exact hk)]
      show some (laidRows (b.set i j k x) k) = _
      congr 1
      have sh : Shape b.n (set2 (laidRows b k) i j x) := (rows_shape b.n fun i j => b.duty i j k).set2 hi j x
      symm
      refine rows_ext sh fun i' j' hi' hj' => ?_
      show _ = (b.set i j k x).duty i' j' k
      rw [get2_set2 (show Shape b.n (laidRows b k) from rows_shape b.n fun i j => b.duty i j k) hi hj, duty_set G hi hj hg hi' hj']
      by_cases z : i' = i ∧ j' = j
      · rw [if_pos z, if_pos ⟨z.1, z.2, rfl⟩]
      · rw [if_neg z, if_neg (fun q => z ⟨q.1, q.2.1⟩)]
        unfold laidRows
        exact rows_get hi' hj'
    · rw [List.getElem?_set_ne (fun z => e z.symm), List.getElem?_map, range_get hk]
      show some (laidRows (b.set i j g x) k) = some (laidRows b k)
      congr 1
      unfold laidRows
      show (List.range b.n).map _ = (List.range b.n).map _
      refine List.map_congr_left fun i' hi' => List.map_congr_left fun j' hj' => ?_
      rw [duty_set G hi hj hg (List.mem_range.mp hi') (List.mem_range.mp hj'), if_neg (fun q => e q.2.2)]
  · rw [List.getElem?_eq_none (by rw [List.length_map, List.length_range]; omega), List.getElem?_eq_none (by rw [List.length_set, List.length_map, List.length_range]; omega)]
section
variable {P : Program} {w : World} {K : PySem.W.Frag} {mg : Str → Option Value} {base : Heap} {Cp Cl : Addr}
abbrev s_with_laid : Stmt := top 9
theorem sc_with_laid : FnScope ["pact", "laid"] ["pact", "laid"] (defScope s_with_laid) := ⟨rfl, rfl, rfl, by decide +kernel, rfl, by decide +kernel, by decide +kernel⟩
def sp_with_laid (Cp : Addr) : Sp := fun vs H Q _ => ∃ v b vl b', vs = [v, vl] ∧ isPact Cp H v b ∧ LstOf isRows H vl (laid3 b') ∧ (b'.n = b.n ∧ b'.m = b.m ∧ b'.clauses = b.clauses ∧ b'.unions = b.unions) ∧ ∀ v' H', Same H H' → isPact Cp H' v' b' → Q v' H'
theorem ok_with_laid {f : Addr} {fd : FuncData} (F : Fun K "with_laid" "with_laid" s_with_laid f fd) (T : Txt K mg Cp Cl) (C_Pact : CalleeI P w K mg base "Pact" Cp 1 psPact (sp_Pact_init Cp)) : FnOk P w K mg base CX0 3 f fd ["pact", "laid"] (sp_with_laid Cp) := by
  refine F.ok sc_with_laid (fun vs H Q E h => ?_) (fun cdv A outer s H vs Q E hr h => ?_)
  · obtain ⟨v, b, vc, cs, rfl, _⟩ := h
    rfl
  · obtain ⟨v, b, vl', b', rfl, ⟨a, dx, fs, vl, vc, vu, rfl, ha, f1, f2, f3, f4, f5, r1, r2, r3⟩, hc, ⟨e1, e2, e3, e4⟩, k⟩ := h
    refine ⟨_, (pss_one (ps_ret (pe_makeC C_Pact hr rfl (pa_cons (pe_fld (pv 0) rfl) (pa_cons (pe_fld (pv 0) rfl) (pa_cons (pv 1) (pa_cons (pe_fld (pv 0) rfl) (pa_cons (pe_fld (pv 0) rfl) pa_nil)))))))), ?_⟩
    refine ⟨_, rfl, a, Cp, dx, _, _, rfl, ha, T.cl_Pact, T.a_states, f1, _, rfl, a, Cp, dx, _, _, rfl, ha, T.cl_Pact, T.a_goods, f2, _, rfl, _, rfl, a, Cp, dx, _, _, rfl, ha, T.cl_Pact, T.a_clauses, f4, _, rfl, a, Cp, dx, _, _, rfl, ha, T.cl_Pact, T.a_unions, f5, ?_⟩
    intro x dx' nx nd ne
    refine ⟨x, dx', _, _, _, _, _, rfl, upd_same, rfl, ?_⟩
    rw [← e1, ← e2]
    have s1 : Same H (upd (upd (upd H dx' (.own x)) x (.ins Cp dx' [])) x (.ins Cp dx' (pf (nv b'.n) (nv b'.m) vl' vc vu))) := made_same nx nd
    have kp : Keep Cl H _ := Keep.of s1
    exact k _ _ s1 (pf_pact (b := b') upd_same (st_Lst st_Rows _ _ _ _ kp hc) (e3 ▸ st_Lst st_Clause _ _ _ _ kp r2) (e4 ▸ st_Lst st_Pair _ _ _ _ kp r3))
abbrev s_with_duty : Stmt := top 10
theorem sc_with_duty : FnScope ["pact", "i", "j", "g", "x", "laid", "rows"] ["pact", "i", "j", "g", "x"] (defScope s_with_duty) := ⟨rfl, rfl, rfl, by decide +kernel, rfl, by decide +kernel, by decide +kernel⟩
def sp_with_duty (Cp : Addr) : Sp := fun vs H Q _ => ∃ v b i j g x, vs = [v, nv i, nv j, nv g, nv x] ∧ isPact Cp H v b ∧ Good b ∧ i < b.n ∧ j < b.n ∧ g < b.m ∧ ∀ v' H', Same H H' → isPact Cp H' v' (b.set i j g x) → Q v' H'
theorem ok_with_duty {f : Addr} {fd : FuncData} (F : Fun K "with_duty" "with_duty" s_with_duty f fd) (T : Txt K mg Cp Cl) (C_copy_rows : Callee P w K mg base "copy_rows" 1 ["rows"] sp_copy_rows) (C_with_laid : Callee P w K mg base "with_laid" 3 ["pact", "laid"] (sp_with_laid Cp)) : FnOk P w K mg base CX0 4 f fd ["pact", "i", "j", "g", "x"] (sp_with_duty Cp) := by
  refine F.ok sc_with_duty (fun vs H Q E h => ?_) (fun cdv A outer s H vs Q E hr h => ?_)
  · obtain ⟨v, b, i, j, g, x, rfl, _⟩ := h
    rfl
  · obtain ⟨v, b, i, j, g, x, rfl, hP, G, hi, hj, hg, k⟩ := h
    refine ⟨_, (pss_cons (ps_setLc (i := 5) rfl sc_with_duty.nd rfl rfl (sw_true rfl rfl (by rfl) (by rfl)) (pi_list (pe_fld (pv 0) rfl)) (blkOk_by (own := [("rows", 6)]) (by show blkC ["pact", "i", "j", "g", "x", "laid", "rows"] (defScope s_with_duty) _ _ = true; decide +kernel)) (fun _ _ _ _ _ => (pg_name (i := 6) sc_with_duty.nd rfl (Or.inl rfl))) (fun _ _ _ _ _ => pts_nil) (fun _ _ _ _ _ => (pe_callC C_copy_rows hr rfl (pa_cons (pv 6) pa_nil))))
      (pss_cons (ps_asg (pv 4) (pg_sub (pe_ix ix_list (pe_ix ix_list (pv 5) (pv 3) (fun _ _ => rfl)) (pv 1) (fun _ _ => rfl)) (pv 2) set_list))
      (pss_one (ps_ret (pe_callC C_with_laid hr rfl (pa_cons (pv 0) (pa_cons (pv 5) pa_nil))))))), ?_⟩
    have hP0 := hP
    obtain ⟨a, dx, fs, vl, vc, vu, rfl, ha, f1, f2, f3, f4, f5, ⟨ll, lvs, rfl, hll, hlp⟩, r2, r3⟩ := hP0
    have hlen := pd_len hlp
    have hlen3 : (laid3 b).length = b.m := by unfold laid3; rw [List.length_map, List.length_range]
    refine ⟨_, rfl, a, Cp, dx, _, _, rfl, ha, T.cl_Pact, T.a_laid, f3, ll, rfl, ⟨_, SqL.of hll⟩, fun D hD => lc_list (K := K) (a := ll) (xs := lvs) (fun i H' => ∃ ts, Same H H' ∧ TabsAt H H' D ts ((laid3 b).take i)) ?_ ?_ ?_ ?_⟩
    · exact ⟨[], same_new hD, upd_same, .nil, List.nodup_nil, fun c hc => by simp at hc, hD, by simp⟩
    · rintro i H' _ ⟨ts, s1, _⟩
      exact SqL.of (s1 _ _ hll)
    · rintro m y H' hy ⟨ts, s1, R⟩
      obtain ⟨rows, hrows, hyr⟩ := pd_get hlp hy
      have hm : m < (laid3 b).length := (List.getElem?_eq_some_iff.mp hrows).1
      have hrn : rows.length ≤ 100 := by
        have : rows = laidRows b m := by
          unfold laid3 at hrows
          rw [List.getElem?_map, range_get (by omega)] at hrows
          exact (Option.some.inj hrows).symm
        rw [this, (show (laidRows b m).length = b.n from (rows_shape b.n fun i j => b.duty i j m).1)]
        have := G.n6
        omega
      refine ⟨rfl, _, rfl, y, rows, rfl, st_Rows (Cl := Cl) _ _ _ _ (Keep.of s1) hyr, hrn, fun H2 a2 as2 s2 R2 => ?_⟩
      have hD2 := s2 _ _ R.lst
      have na2 : a2 ≠ D := fun z => by have := R2.fa; rw [z, R.lst] at this; cases this
      have old : ∀ c ∈ ts.flatMap (fun t => t.1 :: t.2), ∃ o, H' c = some o := by
        intro c hc
        obtain ⟨t, ht, hct⟩ := List.mem_flatMap.mp hc
        obtain ⟨q, hq⟩ := List.getElem?_of_mem ht
        obtain ⟨tb, _, h1, h2⟩ := pd_get R.at_ hq
        rcases List.mem_cons.mp hct with z | z
        · exact ⟨_, by rw [z]; exact h1⟩
        · obtain ⟨q2, hq2⟩ := List.getElem?_of_mem z
          obtain ⟨r, _, h3⟩ := pd_get h2 hq2
          exact ⟨_, h3⟩
      have nDs : D ∉ as2 := fun z => by have := R2.fr D z; rw [R.lst] at this; cases this
      refine ⟨_, hD2, ?_, ts ++ [(a2, as2)], ?_, ?_⟩
      · rw [List.length_map, pd_len R.at_, List.length_take, sizeLine_eq]
        have := G.m3
        omega
      · intro b' o e
        rw [upd_ne (ne_of_none e hD)]
        exact s2 _ _ (s1 _ _ e)
      · have eD : (upd H2 D (.lst (ts.map (fun t => V.ref t.1) ++ [.ref a2]))) D = some (.lst ((ts ++ [(a2, as2)]).map fun t => V.ref t.1)) := by
          rw [upd_same, List.map_append]; rfl
        refine ⟨eD, ?_, ?_, ?_, hD, ?_⟩
        · rw [take_snoc hrows]
          refine Paired.snoc (pd_of (pd_len R.at_) fun q t tb h1 h2 => ?_) ⟨by rw [upd_ne na2]; exact R2.lst, pd_of (pd_len R2.rw_) fun q c r h1 h2 => ?_⟩
          · obtain ⟨tb', h3, h4, h5⟩ := pd_get R.at_ h1
            rw [h2] at h3; cases h3
            have mt := List.mem_of_getElem? h1
            have n1 : t.1 ≠ D := fun z => R.nD (z ▸ List.mem_flatMap.mpr ⟨t, mt, by simp⟩)
            refine ⟨by rw [upd_ne n1]; exact s2 _ _ h4, pd_of (pd_len h5) fun q2 c r h6 h7 => ?_⟩
            obtain ⟨r', h8, h9⟩ := pd_get h5 h6
            rw [h7] at h8; cases h8
            have n2 : c ≠ D := fun z => R.nD (z ▸ List.mem_flatMap.mpr ⟨t, mt, List.mem_cons_of_mem _ (List.mem_of_getElem? h6)⟩)
            rw [upd_ne n2]; exact s2 _ _ h9
          · obtain ⟨r', h8, h9⟩ := pd_get R2.rw_ h1
            rw [h2] at h8; cases h8
            have n2 : c ≠ D := fun z => nDs (z ▸ List.mem_of_getElem? h1)
            rw [upd_ne n2]; exact h9
        · rw [List.flatMap_append, List.flatMap_cons, List.flatMap_nil, List.append_nil]
          refine nodup_app R.nd (List.nodup_cons.mpr ⟨R2.na, R2.nd⟩) fun c hc z => ?_
          obtain ⟨o, ho⟩ := old c hc
          rcases List.mem_cons.mp z with z | z
          · have := R2.fa; rw [← (show c = a2 from z), ho] at this; cases this
          · have := R2.fr c z; rw [ho] at this; cases this
        · intro c hc
          rw [List.flatMap_append, List.flatMap_cons, List.flatMap_nil, List.append_nil] at hc
          rcases List.mem_append.mp hc with z | z
          · exact R.fr c z
          · rcases List.mem_cons.mp z with z | z
            · rw [z]; exact s1.free R2.fa
            · exact s1.free (R2.fr c z)
        · intro z
          rw [List.flatMap_append, List.flatMap_cons, List.flatMap_nil, List.append_nil] at z
          rcases List.mem_append.mp z with z | z
          · exact R.nD z
          · rcases List.mem_cons.mp z with z | z
            · exact na2 z.symm
            · exact nDs z
    · rintro H' ⟨ts, s1, R⟩
      rw [hlen, List.take_length] at R
      have hrow : (laid3 b)[g]? = some (laidRows b g) := by
        unfold laid3
        rw [List.getElem?_map, range_get hg]; rfl
      obtain ⟨t, ht, h1, h2⟩ := pd_get' R.at_ hrow
      have sh : Shape b.n (laidRows b g) := rows_shape b.n fun i j => b.duty i j g
      obtain ⟨r, q1, q2, q3⟩ := sh.row hi
      obtain ⟨c, hc, hcr⟩ := pd_get' h2 q1
      refine ⟨_, rfl, _, rfl, _, rfl, D, _, _, _, rfl, rfl, SqL.of R.lst, atI_nat (j := g) (v := .ref t.1) (by rw [List.getElem?_map, ht]; rfl), _, rfl, t.1, _, _, _, rfl, rfl, SqL.of h1, atI_nat (j := i) (v := .ref c) (by rw [List.getElem?_map, hc]; rfl), _, rfl, c, _, _, j, rfl, rfl, hcr, ?_, ?_⟩
      · unfold ixN
        rw [List.length_map, q3, if_pos (by omega), if_pos (by omega)]
        simp
      · have mc : c ∈ ts.flatMap fun t => t.1 :: t.2 := List.mem_flatMap.mpr ⟨t, List.mem_of_getElem? ht, List.mem_cons_of_mem _ (List.mem_of_getElem? hc)⟩
        have s2 : Same H (upd H' c (.lst ((r.map nv).set j (nv x)))) := fun b' o e => by
          have : b' ≠ c := ne_of_none e (R.fr c mc)
          rw [upd_ne this]; exact s1 _ _ e
        refine ⟨_, rfl, _, rfl, _, b, _, b.set i j g x, rfl, st_Pact T.ne _ _ _ _ (Keep.of s2) hP, ?_, ⟨rfl, rfl, rfl, rfl⟩, fun v' H3 s3 hp3 => k _ _ (s2.trans s3) hp3⟩
        have nDc : D ≠ c := fun z => R.nD (z ▸ mc)
        refine ⟨D, _, rfl, by rw [upd_ne nDc]; exact R.lst, ?_⟩
        rw [laid3_set G hi hj hg]
        refine pd_of (by rw [List.length_map, List.length_set]; exact pd_len R.at_) fun q y tb hy htb => ?_
        rw [List.getElem?_map] at hy
        cases hq : ts[q]? with
        | none => rw [hq] at hy; cases hy
        | some t' =>
          rw [hq] at hy
          cases hy
          have mt' := List.mem_of_getElem? hq
          obtain ⟨tb', p1, p2, p3⟩ := pd_get R.at_ hq
          by_cases e : q = g
          · subst e
            rw [ht] at hq
            cases hq
            rw [List.getElem?_set_self (by rw [hlen3]; exact hg)] at htb
            cases htb
            rw [hrow] at p1
            cases p1
            have ntc : t.1 ≠ c := ne_of_nd (ts := ts) R.nd ht hc
            refine ⟨t.1, _, rfl, by rw [upd_ne ntc]; exact p2, ?_⟩
            unfold set2
            rw [q2]
            refine pd_of (by rw [List.length_map, List.length_set]; exact pd_len p3) fun q' y' r' hy' hr' => ?_
            rw [List.getElem?_map] at hy'
            cases hc' : t.2[q']? with
            | none => rw [hc'] at hy'; cases hy'
            | some c' =>
              rw [hc'] at hy'
              cases hy'
              by_cases e' : q' = i
              · subst e'
                rw [hc] at hc'
                cases hc'
                rw [List.getElem?_set_self (List.getElem?_eq_some_iff.mp q1).1] at hr'
                cases hr'
                exact ⟨c, rfl, by rw [upd_same, List.map_set]⟩
              · rw [List.getElem?_set_ne (fun z => e' z.symm)] at hr'
                obtain ⟨r2', z1, z2⟩ := pd_get p3 hc'
                rw [hr'] at z1
                cases z1
                have ncc : c' ≠ c := fun z => e' (nd_ix (nd_row (ts := ts) R.nd ht) hc' (by rw [z]; exact hc))
                exact ⟨c', rfl, by rw [upd_ne ncc]; exact z2⟩
          · rw [List.getElem?_set_ne (fun z => e z.symm), p1] at htb
            cases htb
            have nin : c ∉ t'.1 :: t'.2 := nd_other (ts := ts) R.nd ht hq (fun z => e z.symm) (List.mem_cons_of_mem _ (List.mem_of_getElem? hc))
            have n1 : t'.1 ≠ c := fun z => nin (z ▸ List.mem_cons_self)
            refine ⟨t'.1, _, rfl, by rw [upd_ne n1]; exact p2, ?_⟩
            refine pd_of (by rw [List.length_map]; exact pd_len p3) fun q' y' r' hy' hr' => ?_
            rw [List.getElem?_map] at hy'
            cases hc' : t'.2[q']? with
            | none => rw [hc'] at hy'; cases hy'
            | some c' =>
              rw [hc'] at hy'
              cases hy'
              obtain ⟨r2', z1, z2⟩ := pd_get p3 hc'
              rw [hr'] at z1
              cases z1
              have ncc : c' ≠ c := fun z => nin (z ▸ List.mem_cons_of_mem _ (List.mem_of_getElem? hc'))
              exact ⟨c', rfl, by rw [upd_ne ncc]; exact z2⟩
end
end Mf

namespace Mf
open PySem PySem.Spec PyProof.Rows L2 Km482
theorem flat_zero (n : Nat) : (List.replicate n [V.int 0]).flatten = (List.replicate n 0).map nv := by
  induction n with
  | zero => rfl
  | succ n ih => rw [List.replicate_succ, List.flatten_cons, ih]; rfl
def book0 (n m : Nat) : Book := ⟨n, m, List.replicate (n * n * m) 0, [], []⟩
theorem duty0 (n m i j g : Nat) : (book0 n m).duty i j g = 0 := by
  show (List.replicate (n * n * m) 0).getD _ 0 = 0
  rw [List.getD_eq_getElem?_getD]
  cases e : (List.replicate (n * n * m) 0)[(book0 n m).place i j g]? with
  | none => rfl
  | some x => exact List.eq_of_mem_replicate (List.mem_of_getElem? e)
def zeros (n : Nat) : List (List Nat) := List.replicate n (List.replicate n 0)
theorem map_range_const {α : Type} (n : Nat) (x : α) : (List.range n).map (fun _ => x) = List.replicate n x := by
  rw [List.map_const', List.length_range]
theorem laid0 (n m g : Nat) : laidRows (book0 n m) g = zeros n := by
  unfold laidRows zeros
  simp only [duty0]
  show (List.range n).map (fun _ => (List.range n).map fun _ => 0) = _
  rw [map_range_const, map_range_const]
theorem laid3_0 (n m : Nat) : laid3 (book0 n m) = List.replicate m (zeros n) := by
  unfold laid3
  have : laidRows (book0 n m) = fun _ => zeros n := by funext g; exact laid0 n m g
  rw [this]
  exact map_range_const _ _
theorem take_rep {α : Type} (x : α) {i n : Nat} (h : i < n) : (List.replicate n x).take (i + 1) = (List.replicate n x).take i ++ [x] :=
  take_snoc (by rw [List.getElem?_replicate, if_pos h])
/-- lists all the way are kept when another list is written -/
def LstKeep (D : Addr) (H H' : Hp) : Prop := ∀ b o, H b = some o → b ≠ D → H' b = some o
theorem lk_Row {D : Addr} {H H' : Hp} {v : V} {r : List Nat} (k : LstKeep D H H') (nv' : v ≠ .ref D) (h : isRow H v r) : isRow H' v r := by
  obtain ⟨a, e, h⟩ := h
  exact ⟨a, e, k _ _ h fun z => nv' (by rw [e, z])⟩
section
variable {P : Program} {w : World} {K : PySem.W.Frag} {mg : Str → Option Value} {base : Heap} {Cp Cl : Addr}
abbrev s_new_pact : Stmt := top 7
theorem sc_new_pact : FnScope ["states", "goods", "laid", "g", "i"] ["states", "goods"] (defScope s_new_pact) := ⟨rfl, rfl, rfl, by decide +kernel, rfl, by decide +kernel, by decide +kernel⟩
def sp_new_pact (Cp : Addr) : Sp := fun vs H Q _ => ∃ n m : Nat, vs = [nv n, nv m] ∧ n ≤ 6 ∧ m ≤ 3 ∧ ∀ v' H', Same H H' → isPact Cp H' v' (book0 n m) → Q v' H'
/-- rows within a list D' of tables, none of which is D or D' -/
theorem ok_new_pact {f : Addr} {fd : FuncData} (F : Fun K "new_pact" "new_pact" s_new_pact f fd) (T : Txt K mg Cp Cl) (C_Pact : CalleeI P w K mg base "Pact" Cp 1 psPact (sp_Pact_init Cp)) : FnOk P w K mg base CX0 3 f fd ["states", "goods"] (sp_new_pact Cp) := by
  refine F.ok sc_new_pact (fun vs H Q E h => ?_) (fun cdv A outer s H vs Q E hr h => ?_)
  · obtain ⟨n, m, rfl, _⟩ := h
    rfl
  · obtain ⟨n, m, rfl, hn, hm, k⟩ := h
    refine ⟨_, (pss_cons (ps_set (i := 2) sc_new_pact.nd rfl (Or.inl rfl) (pe_lst pa_nil))
      (pss_cons (ps_for PassesOwn.never rfl (pi_range1 rfl T.b_range (pa_cons (pv 1) pa_nil)) (pg_name (i := 3) sc_new_pact.nd rfl (Or.inl rfl))
      (pss_one (ps_expr (pe_bm PySem.F.plainAttrs_list PySem.F.slot_list_append PySem.F.type_list_append mt_append (pv 2) (pa_cons (pe_lc rfl sc_new_pact.nd (pi_range1 rfl T.b_range (pa_cons (pv 0) pa_nil)) (blkOk_by (own := [("i", 4)]) (by show blkC ["states", "goods", "laid", "g", "i"] (defScope s_new_pact) _ _ = true; decide +kernel)) (fun _ _ _ _ _ => (pg_name (i := 4) sc_new_pact.nd rfl (Or.inl rfl))) (fun _ _ _ _ _ => pts_nil) (fun _ _ _ _ _ => (pe_op op_rep (pe_lst (pa_cons pe_int pa_nil)) (pv 0)))) pa_nil)))))
      (pss_one (ps_ret (pe_makeC C_Pact hr rfl (pa_cons (pv 0) (pa_cons (pv 1) (pa_cons (pv 2) (pa_cons (pe_lst pa_nil) (pa_cons (pe_lst pa_nil) pa_nil)))))))))), ?_⟩
    refine ⟨Nat.zero_le _, fun D hD => ?_⟩
    have s0 : Same H (upd H D (.lst [])) := same_new hD
    refine ⟨_, rfl, (m : Int), rfl, by omega, by omega, for_range (fun g σ H' => ∃ (o3 o4 : Option V) (vs' : List V), σ = [some (nv n), some (nv m), some (.ref D), o3, o4] ∧ Same H H' ∧ H' D = some (.lst vs') ∧ Paired (isRows H') vs' (List.replicate g (zeros n)) ∧ vs'.length = g ∧ (∀ v ∈ vs', v ≠ .ref D) ∧
      (∀ v ∈ vs', ∀ a xs, v = .ref a → H' a = some (.lst xs) → .ref D ∉ xs)) ?_ ?_ ?_⟩
    · exact ⟨none, none, [], rfl, s0, upd_same, .nil, rfl, by simp, by simp⟩
    · rintro g σ H' hg ⟨o3, o4, vs', rfl, s1, hD', pd, hl, nD, nD2⟩
      have hg : g < m := by omega
      refine ⟨_, rfl, .inl ⟨rfl, _, SqL.of hD'⟩, _, rfl, (n : Int), rfl, by omega, by omega, fun D' hD2 => ?_⟩
      have nDD : D' ≠ D := fun z => by rw [z, hD'] at hD2; cases hD2
      refine lc_range (fun i H2 => ∃ ws, Same H' H2 ∧ H2 D' = some (.lst ws) ∧ Paired (isRow H2) ws (List.replicate i (List.replicate n 0)) ∧ ws.length = i ∧ (∀ v ∈ ws, v ≠ .ref D' ∧ v ≠ .ref D)) ?_ ?_ ?_
      · exact ⟨[], same_new hD2, upd_same, .nil, rfl, by simp⟩
      · rintro i H2 hi ⟨ws, s2, hD3, pd2, hl2, nw⟩
        have hi : i < n := by omega
        refine ⟨rfl, (by show 1 ≤ sizeLine; decide), fun l0 n0 => ⟨_, rfl, l0, (n : Int), [V.int 0], rfl, rfl, upd_same, by omega, by omega, ?_, fun l1 n1 => ?_⟩⟩
        · rw [List.length_singleton, sizeLine_eq, Int.toNat_natCast]; omega
        · have s3 : Same H2 (upd (upd H2 l0 (.lst [V.int 0])) l1 (.lst (List.replicate (n : Int).toNat [V.int 0]).flatten)) := (same_new n0).trans (same_new n1)
          have hD4 := s3 _ _ hD3
          have l1D : l1 ≠ D' := fun z => by rw [z, same_new n0 _ _ hD3] at n1; cases n1
          have l1E : l1 ≠ D := fun z => by rw [z, same_new n0 _ _ (s2 _ _ hD')] at n1; cases n1
          refine ⟨ws, hD4, by rw [sizeLine_eq]; omega, ws ++ [.ref l1], ?_, upd_same, ?_, ?_, ?_⟩
          · intro b o e
            rw [upd_ne (ne_of_none e hD2)]
            exact s3 _ _ (s2 _ _ e)
          · have lk : LstKeep D' H2 (upd (upd (upd H2 l0 (.lst [V.int 0])) l1 (.lst (List.replicate (n : Int).toNat [V.int 0]).flatten)) D' (.lst (ws ++ [.ref l1]))) := fun b o e nb => by
              rw [upd_ne nb]; exact s3 _ _ e
            rw [List.replicate_succ']
            refine Paired.snoc (pd_of (pd_len pd2) fun q v r h1 h2 => ?_) ⟨l1, rfl, ?_⟩
            · obtain ⟨r', h3, h4⟩ := pd_get pd2 h1
              rw [h2] at h3; cases h3
              exact lk_Row lk (nw v (List.mem_of_getElem? h1)).1 h4
            · rw [upd_ne l1D, upd_same, Int.toNat_natCast, flat_zero]
          · rw [List.length_append, hl2, List.length_singleton]
          · intro v hv
            rcases List.mem_append.mp hv with z | z
            · exact nw v z
            · rw [List.mem_singleton.mp z]
              exact ⟨fun q => l1D (by injection q), fun q => l1E (by injection q)⟩
      · rintro H2 ⟨ws, s2, hD3, pd2, hl2, nw⟩
        rw [Int.toNat_natCast] at pd2 hl2
        have hDb := s2 _ _ hD'
        refine ⟨D, vs', _, rfl, rfl, hDb, by rw [sizeLine_eq]; omega, ?_⟩
        have lk : LstKeep D H2 (upd H2 D (.lst (vs' ++ [.ref D']))) := fun b o e nb => by rw [upd_ne nb]; exact e
        refine ⟨_, _, vs' ++ [.ref D'], rfl, ?_, upd_same, ?_, ?_, ?_, ?_⟩
        · intro b o e
          rw [upd_ne (ne_of_none e hD)]
          exact s2 _ _ (s1 _ _ e)
        · rw [List.replicate_succ']
          refine Paired.snoc (pd_of (pd_len pd) fun q v r h1 h2 => ?_) ⟨D', ws, rfl, by rw [upd_ne nDD]; exact hD3, ?_⟩
          · obtain ⟨r', h3, a3, xs, rfl, h5, h6⟩ := pd_get pd h1
            rw [h2] at h3; cases h3
            have mv := List.mem_of_getElem? h1
            have na : a3 ≠ D := fun z => nD _ mv (by rw [z])
            refine ⟨a3, xs, rfl, by rw [upd_ne na]; exact s2 _ _ h5, pd_of (pd_len h6) fun q2 v2 r2 h7 h8 => ?_⟩
            obtain ⟨r2', h9, h10⟩ := pd_get h6 h7
            rw [h8] at h9; cases h9
            have nv2 : v2 ≠ .ref D := fun z => nD2 _ mv a3 xs rfl h5 (z ▸ List.mem_of_getElem? h7)
            exact lk_Row lk nv2 (st_Row (Cl := Cl) _ _ _ _ (Keep.of s2) h10)
          · refine pd_of (by rw [hl2]; unfold zeros; rw [List.length_replicate]) fun q v r h1 h2 => ?_
            obtain ⟨r', h3, h4⟩ := pd_get pd2 h1
            have e : r' = r := by
              unfold zeros at h2
              rw [h3] at h2
              exact Option.some.inj h2
            rw [← e]
            exact lk_Row lk (nw v (List.mem_of_getElem? h1)).2 h4
        · rw [List.length_append, hl, List.length_singleton]
        · intro v hv
          rcases List.mem_append.mp hv with z | z
          · exact nD v z
          · rw [List.mem_singleton.mp z]
            exact fun q => nDD (by injection q)
        · intro v hv a3 xs e h5
          rcases List.mem_append.mp hv with z | z
          · have na : a3 ≠ D := fun q => nD v z (by rw [e, q])
            rw [upd_ne na] at h5
            have : H' a3 = some (.lst xs) := by
              obtain ⟨q, hq⟩ := List.getElem?_of_mem z
              obtain ⟨r', _, a4, ys, e4, h6, _⟩ := pd_get pd hq
              rw [e] at e4
              have ea : a3 = a4 := by injection e4
              rw [← ea] at h6
              rw [s2 _ _ h6] at h5
              cases h5; exact h6
            exact nD2 v z a3 xs e this
          · rw [List.mem_singleton.mp z] at e
            have ea : D' = a3 := by injection e
            rw [← ea, upd_ne nDD, hD3] at h5
            cases h5
            exact fun q => (nw _ q).2 rfl
    · rintro σ H' ⟨o3, o4, vs', rfl, s1, hD', pd, hl, nD, nD2⟩
      rw [Int.toNat_natCast] at pd
      refine ⟨_, rfl, _, rfl, _, rfl, Nat.zero_le _, fun l1 n1 => ⟨Nat.zero_le _, fun l2 n2 => ?_⟩⟩
      intro x dx nx nd ne
      refine ⟨x, dx, _, _, _, _, _, rfl, upd_same, rfl, ?_⟩
      have s2 : Same H' (upd (upd H' l1 (.lst [])) l2 (.lst [])) := (same_new n1).trans (same_new n2)
      have s3 : Same (upd (upd H' l1 (.lst [])) l2 (.lst [])) (upd (upd (upd (upd (upd H' l1 (.lst [])) l2 (.lst [])) dx (.own x)) x (.ins Cp dx [])) x (.ins Cp dx (pf (nv n) (nv m) (.ref D) (.ref l1) (.ref l2)))) := made_same nx nd
      refine k _ _ ((s1.trans s2).trans s3) (pf_pact (b := book0 n m) upd_same (st_Lst st_Rows _ _ _ _ (Keep.of (Cl := Cl) (s2.trans s3)) ?_) ⟨l1, [], rfl, s3 _ _ (same_new n2 _ _ upd_same), .nil⟩ ⟨l2, [], rfl, s3 _ _ upd_same, .nil⟩)
      rw [laid3_0]
      exact ⟨D, vs', rfl, hD', pd⟩
end
end Mf

namespace Mf
open PySem PySem.Spec PyProof.Rows L2 Km482
def isAns (H : Hp) (v : V) (l : List Int) : Prop := ∃ a, v = .ref a ∧ H a = some (.lst (l.map V.int))
/-- what a call answers that only asks -/
def ans (b : Book) (c : Call) : List Int := Km482Neutral.told (act ⟨b, [], []⟩ c).2
theorem no_ref2 {b : Book} {i j : Nat} : ref2 b i j = if b.no i j = true then -2 else if i = j then -22 else 0 := by
  unfold ref2
  by_cases h : b.n ≤ i ∨ b.n ≤ j
  · rw [if_pos h, if_pos (no_true.mpr h)]
  · rw [if_neg h, if_neg (fun z => h (no_true.mp z))]
theorem ref3_cases (b : Book) (i j g : Nat) : ((b.no i j = true ∨ b.noGood g = true) ∧ ref3 b i j g = -2) ∨ (¬ (b.no i j = true ∨ b.noGood g = true) ∧ i = j ∧ ref3 b i j g = -22) ∨ (¬ (b.no i j = true ∨ b.noGood g = true) ∧ i ≠ j ∧ ref3 b i j g = 0 ∧ i < b.n ∧ j < b.n ∧ g < b.m) := by
  unfold ref3 ref2
  rw [no_true, noGood_true]
  by_cases h1 : b.m ≤ g
  · rw [if_pos h1]; exact .inl ⟨.inr h1, rfl⟩
  · rw [if_neg h1]
    by_cases h2 : b.n ≤ i ∨ b.n ≤ j
    · rw [if_pos h2]; exact .inl ⟨.inl h2, rfl⟩
    · rw [if_neg h2]
      by_cases h3 : i = j
      · rw [if_pos h3]; exact .inr (.inl ⟨by omega, h3, rfl⟩)
      · rw [if_neg h3]; exact .inr (.inr ⟨by omega, h3, rfl, by omega, by omega, by omega⟩)
theorem ans_one {H : Hp} {p : Addr} {z : Int} (hp : H p = none) : isAns (upd H p (.lst [.int z])) (.ref p) [z] := ⟨p, rfl, upd_same⟩
section
variable {P : Program} {w : World} {K : PySem.W.Frag} {mg : Str → Option Value} {base : Heap} {Cp Cl : Addr}
abbrev s_mf_clause : Stmt := top 71
theorem sc_mf_clause : FnScope ["pact", "c"] ["pact", "c"] (defScope s_mf_clause) := ⟨rfl, rfl, rfl, by decide +kernel, rfl, by decide +kernel, by decide +kernel⟩
def sp_mf_clause (Cp : Addr) : Sp := fun vs H Q _ => ∃ v b c, vs = [v, nv c] ∧ isPact Cp H v b ∧ ∀ v' H', Same H H' → isAns H' v' (ans b (.clause c)) → Q v' H'
theorem ok_mf_clause {f : Addr} {fd : FuncData} (F : Fun K "mf_clause" "mf_clause" s_mf_clause f fd) (T : Txt K mg Cp Cl) : FnOk P w K mg base CX0 1 f fd ["pact", "c"] (sp_mf_clause Cp) := by
  refine F.ok sc_mf_clause (fun vs H Q E h => ?_) (fun cdv A outer s H vs Q E hr h => ?_)
  · obtain ⟨v, b, c, rfl, _⟩ := h
    rfl
  · obtain ⟨v, b, c, rfl, ⟨a, dx, fs, vl, vc, vu, rfl, ha, f1, f2, f3, f4, f5, r1, ⟨lc, cvs, rfl, hlc, hcs⟩, r3⟩, k⟩ := h
    refine ⟨_, (pss_cons (ps_if (pt_cmpR op_ge (pv 1) (pe_callB call_len_seq (by rfl) T.b_len PySem.boot_len (pa_cons (pe_fld (pv 0) rfl) pa_nil)) (nomark _)) (pss_one (ps_ret (pe_lst (pa_cons (pe_gi rfl T.g_NONE_THERE) pa_nil)))) pss_nil)
      (pss_one (ps_ret (pe_callTy call_list_of (by rfl) T.b_list (by rfl) (pa_cons (pe_ix ix_list (pe_fld (pv 0) rfl) (pv 1) (fun _ _ => rfl)) pa_nil))))), ?_⟩
    have hlen := pd_len hcs
    refine ⟨_, rfl, _, rfl, ?_⟩
    refine ⟨a, Cp, dx, _, _, rfl, ha, T.cl_Pact, T.a_clauses, f4, lc, _, rfl, .inl (SqL.of hlc), _, _, rfl, rfl, _, rfl, ite2 (fun e => ?_) (fun e => ?_)⟩
    · have e := of_decide_eq_true e
      refine ⟨(by show 1 ≤ sizeLine; decide), fun p hp => k _ _ (same_new hp) ?_⟩
      have e2 : ans b (.clause c) = [-2] := by
        unfold ans
        simp only [act]
        rw [List.getElem?_eq_none (by omega)]; rfl
      rw [e2]; exact ans_one hp
    · have e : c < b.clauses.length := by
        apply Classical.byContradiction
        intro z
        exact e (decide_eq_true (by omega))
      obtain ⟨cl, hcl⟩ : ∃ cl, b.clauses[c]? = some cl := ⟨_, List.getElem?_eq_getElem e⟩
      obtain ⟨vcl, hv, t, rfl, ht⟩ := pd_get' hcs hcl
      refine ⟨_, rfl, a, Cp, dx, _, _, rfl, ha, T.cl_Pact, T.a_clauses, f4, _, rfl, lc, _, _, _, rfl, rfl, SqL.of hlc, atI_nat hv, t, _, rfl, .inr (SqT.of ht), fun l hl => k _ _ (same_new hl) ?_⟩
      have e2 : ans b (.clause c) = [(cl.kind : Int), (cl.i : Int), (cl.j : Int), (cl.k : Int)] := by
        unfold ans
        simp only [act]
        rw [hcl]; rfl
      rw [e2]; exact ⟨l, rfl, upd_same⟩
abbrev s_mf_laid : Stmt := top 72
theorem sc_mf_laid : FnScope ["pact", "i", "j", "g", "refusal"] ["pact", "i", "j", "g"] (defScope s_mf_laid) := ⟨rfl, rfl, rfl, by decide +kernel, rfl, by decide +kernel, by decide +kernel⟩
def sp_mf_laid (Cp : Addr) : Sp := fun vs H Q _ => ∃ v b i j g, vs = [v, nv i, nv j, nv g] ∧ isPact Cp H v b ∧ ∀ v' H', Same H H' → isAns H' v' (ans b (.laid i j g)) → Q v' H'
/-- what is laid down, by the lists -/
theorem laid_at {H : Hp} {vl : V} {b : Book} {i j g : Nat} (h : LstOf isRows H vl (laid3 b)) (hi : i < b.n) (hj : j < b.n) (hg : g < b.m) : ∃ l0 lvs l1 rvs l2, vl = .ref l0 ∧ H l0 = some (.lst lvs) ∧ lvs[g]? = some (.ref l1) ∧ H l1 = some (.lst rvs) ∧ rvs[i]? = some (.ref l2) ∧
    H l2 = some (.lst (((List.range b.n).map fun j => b.duty i j g).map nv)) ∧ (((List.range b.n).map fun j => b.duty i j g).map nv)[j]? = some (nv (b.duty i j g)) := by
  obtain ⟨l0, lvs, rfl, h0, p0⟩ := h
  have hrow : (laid3 b)[g]? = some (laidRows b g) := by
    unfold laid3
    rw [List.getElem?_map, range_get hg]; rfl
  obtain ⟨v1, e1, l1, rvs, rfl, h1, p1⟩ := pd_get' p0 hrow
  have hr : (laidRows b g)[i]? = some ((List.range b.n).map fun j => b.duty i j g) := by
    unfold laidRows
    rw [List.getElem?_map, range_get hi]; rfl
  obtain ⟨v2, e2, l2, rfl, h2⟩ := pd_get' p1 hr
  refine ⟨l0, lvs, l1, rvs, l2, rfl, h0, e1, h1, e2, h2, ?_⟩
  rw [List.getElem?_map, List.getElem?_map, range_get hj]; rfl
theorem ok_mf_laid {f : Addr} {fd : FuncData} (F : Fun K "mf_laid" "mf_laid" s_mf_laid f fd) (T : Txt K mg Cp Cl) (C_refusal_of_duty : Callee P w K mg base "refusal_of_duty" 3 ["pact", "i", "j", "g"] (sp_refusal_of_duty Cp)) : FnOk P w K mg base CX0 4 f fd ["pact", "i", "j", "g"] (sp_mf_laid Cp) := by
  refine F.ok sc_mf_laid (fun vs H Q E h => ?_) (fun cdv A outer s H vs Q E hr h => ?_)
  · obtain ⟨v, b, i, j, g, rfl, _⟩ := h
    rfl
  · obtain ⟨v, b, i, j, g, rfl, hP, k⟩ := h
    refine ⟨_, (pss_cons (ps_set (i := 4) sc_mf_laid.nd rfl (Or.inl rfl) (pe_callC C_refusal_of_duty hr rfl (pa_cons (pv 0) (pa_cons (pv 1) (pa_cons (pv 2) (pa_cons (pv 3) pa_nil))))))
      (pss_cons (ps_if (pt_cmpR op_ne (pv 4) (pe_gi rfl T.g_NO_REFUSAL) (nomark _)) (pss_one (ps_ret (pe_lst (pa_cons (pv 4) pa_nil)))) pss_nil)
      (pss_one (ps_ret (pe_lst (pa_cons (pe_ix ix_list (pe_ix ix_list (pe_ix ix_list (pe_fld (pv 0) rfl) (pv 3) (fun _ _ => rfl)) (pv 1) (fun _ _ => rfl)) (pv 2) (fun _ _ => rfl)) pa_nil)))))), ?_⟩
    have hP0 := hP
    obtain ⟨a, dx, fs, vl, vc, vu, rfl, ha, f1, f2, f3, f4, f5, r1, r2, r3⟩ := hP0
    refine ⟨_, rfl, _, rfl, _, rfl, _, rfl, _, b, i, j, g, rfl, hP, ?_⟩
    refine ⟨_, rfl, rfl, _, rfl, ?_⟩
    rcases ref3_cases b i j g with ⟨h1, e⟩ | ⟨h1, h2, e⟩ | ⟨h1, h2, e, hi, hj, hg⟩
    · rw [e]
      refine ⟨_, rfl, (by show 1 ≤ sizeLine; decide), fun p hp => k _ _ (same_new hp) ?_⟩
      have e2 : ans b (.laid i j g) = [-2] := by unfold ans; simp only [act]; rw [if_pos h1]; rfl
      rw [e2]; exact ans_one hp
    · rw [e]
      refine ⟨_, rfl, (by show 1 ≤ sizeLine; decide), fun p hp => k _ _ (same_new hp) ?_⟩
      have e2 : ans b (.laid i j g) = [-22] := by unfold ans; simp only [act]; rw [if_neg h1, if_pos h2]; rfl
      rw [e2]; exact ans_one hp
    · rw [e]
      obtain ⟨l0, lvs, l1, rvs, l2, rfl, q0, q1, q2, q3, q4, q5⟩ := laid_at r1 hi hj hg
      refine ⟨_, rfl, a, Cp, dx, _, _, rfl, ha, T.cl_Pact, T.a_laid, f3, _, rfl, l0, _, _, _, rfl, rfl, SqL.of q0, atI_nat q1, _, rfl, l1, _, _, _, rfl, rfl, SqL.of q2, atI_nat q3, _, rfl, l2, _, _, _, rfl, rfl, SqL.of q4, atI_nat q5, (by show 1 ≤ sizeLine; decide), fun p hp => k _ _ (same_new hp) ?_⟩
      have e2 : ans b (.laid i j g) = [(b.duty i j g : Int)] := by unfold ans; simp only [act]; rw [if_neg h1, if_neg h2]; rfl
      rw [e2]; exact ans_one hp
end
end Mf

namespace Mf
open PySem PySem.Spec PyProof.Rows L2 Km482
theorem taken_row {b : Book} {g i : Nat} (hi : i < b.n) : (takenRows b g)[i]? = some ((List.range b.n).map fun j => tk b i j g) := by
  unfold takenRows
  rw [List.getElem?_map, range_get hi]; rfl
theorem sum_cast (l : List Nat) : (l.map fun (x : Nat) => (x : Int)).sum = ((Km482.sum l : Nat) : Int) := by
  unfold Km482.sum
  have : ∀ (l : List Nat) (a : Nat), ((l.foldl (· + ·) a : Nat) : Int) = (a : Int) + (l.map fun (x : Nat) => (x : Int)).sum := by
    intro l
    induction l with
    | nil => intro a; simp
    | cons x l ih => intro a; rw [List.foldl_cons, ih, List.map_cons, List.sum_cons]; omega
  rw [this]; simp
section
variable {P : Program} {w : World} {K : PySem.W.Frag} {mg : Str → Option Value} {base : Heap} {Cp Cl : Addr}
abbrev s_mf_takes : Stmt := top 73
theorem sc_mf_takes : FnScope ["pact", "i", "j", "g", "refusal"] ["pact", "i", "j", "g"] (defScope s_mf_takes) := ⟨rfl, rfl, rfl, by decide +kernel, rfl, by decide +kernel, by decide +kernel⟩
def sp_mf_takes (Cp : Addr) : Sp := fun vs H Q _ => ∃ v b i j g, vs = [v, nv i, nv j, nv g] ∧ isPact Cp H v b ∧ Good b ∧ ∀ v' H', Same H H' → isAns H' v' (ans b (.takes i j g)) → Q v' H'
theorem ok_mf_takes {f : Addr} {fd : FuncData} (F : Fun K "mf_takes" "mf_takes" s_mf_takes f fd) (T : Txt K mg Cp Cl) (C_refusal_of_duty : Callee P w K mg base "refusal_of_duty" 3 ["pact", "i", "j", "g"] (sp_refusal_of_duty Cp)) (C_taken_of : Callee P w K mg base "taken_of" 5 ["pact", "g"] (sp_taken_of Cp)) : FnOk P w K mg base CX0 6 f fd ["pact", "i", "j", "g"] (sp_mf_takes Cp) := by
  refine F.ok sc_mf_takes (fun vs H Q E h => ?_) (fun cdv A outer s H vs Q E hr h => ?_)
  · obtain ⟨v, b, i, j, g, rfl, _⟩ := h
    rfl
  · obtain ⟨v, b, i, j, g, rfl, hP, G, k⟩ := h
    refine ⟨_, (pss_cons (ps_set (i := 4) sc_mf_takes.nd rfl (Or.inl rfl) (pe_callC C_refusal_of_duty hr rfl (pa_cons (pv 0) (pa_cons (pv 1) (pa_cons (pv 2) (pa_cons (pv 3) pa_nil))))))
      (pss_cons (ps_if (pt_cmpR op_ne (pv 4) (pe_gi rfl T.g_NO_REFUSAL) (nomark _)) (pss_one (ps_ret (pe_lst (pa_cons (pv 4) pa_nil)))) pss_nil)
      (pss_one (ps_ret (pe_lst (pa_cons (pe_ix ix_list (pe_ix ix_list (pe_callC C_taken_of hr rfl (pa_cons (pv 0) (pa_cons (pv 3) pa_nil))) (pv 1) (fun _ _ => rfl)) (pv 2) (fun _ _ => rfl)) pa_nil)))))), ?_⟩
    refine ⟨_, rfl, _, rfl, _, rfl, _, rfl, _, b, i, j, g, rfl, hP, ?_⟩
    refine ⟨_, rfl, rfl, _, rfl, ?_⟩
    rcases ref3_cases b i j g with ⟨h1, e⟩ | ⟨h1, h2, e⟩ | ⟨h1, h2, e, hi, hj, hg⟩
    · rw [e]
      refine ⟨_, rfl, (by show 1 ≤ sizeLine; decide), fun p hp => k _ _ (same_new hp) ?_⟩
      have e2 : ans b (.takes i j g) = [-2] := by unfold ans; simp only [act]; rw [if_pos h1]; rfl
      rw [e2]; exact ans_one hp
    · rw [e]
      refine ⟨_, rfl, (by show 1 ≤ sizeLine; decide), fun p hp => k _ _ (same_new hp) ?_⟩
      have e2 : ans b (.takes i j g) = [-22] := by unfold ans; simp only [act]; rw [if_neg h1, if_pos h2]; rfl
      rw [e2]; exact ans_one hp
    · rw [e]
      refine ⟨_, rfl, _, rfl, v, b, g, rfl, hP, G, hg, fun H1 a as s1 R => ?_⟩
      obtain ⟨c, r, a1, a2, a3, a4, a5, a6, a7⟩ := R.get (rows_shape b.n fun i j => tk b i j g) hi hj
      refine ⟨_, rfl, a, _, _, _, rfl, rfl, SqL.of R.lst, atI_nat a6, _, rfl, c, _, _, _, rfl, rfl, SqL.of a5, atI_nat a7, (by show 1 ≤ sizeLine; decide), fun p hp => k _ _ (s1.trans (same_new hp)) ?_⟩
      have e3 : get2 (takenRows b g) i j = b.takes i j g := by
        unfold takenRows
        rw [rows_get hi hj]
        unfold tk
        rw [if_neg h2]
      have e2 : ans b (.takes i j g) = [(b.takes i j g : Int)] := by unfold ans; simp only [act]; rw [if_neg h1, if_neg h2]; rfl
      rw [e2, ← e3]; exact ans_one hp
abbrev s_mf_row : Stmt := top 74
theorem sc_mf_row : FnScope ["pact", "i", "g", "refusal", "row"] ["pact", "i", "g"] (defScope s_mf_row) := ⟨rfl, rfl, rfl, by decide +kernel, rfl, by decide +kernel, by decide +kernel⟩
def sp_mf_row (Cp : Addr) : Sp := fun vs H Q _ => ∃ v b i g, vs = [v, nv i, nv g] ∧ isPact Cp H v b ∧ Good b ∧ ∀ v' H', Same H H' → isAns H' v' (ans b (.row i g)) → Q v' H'
theorem refR_cases (b : Book) (i g : Nat) : ((b.no i i = true ∨ b.noGood g = true) ∧ refR b i g = -2) ∨ (¬ (b.no i i = true ∨ b.noGood g = true) ∧ refR b i g = 0 ∧ i < b.n ∧ g < b.m) := by
  unfold refR
  rw [no_true, noGood_true]
  by_cases h : b.n ≤ i ∨ b.m ≤ g
  · rw [if_pos h]; exact .inl ⟨by omega, rfl⟩
  · rw [if_neg h]; exact .inr ⟨by omega, rfl, by omega, by omega⟩
theorem ok_mf_row {f : Addr} {fd : FuncData} (F : Fun K "mf_row" "mf_row" s_mf_row f fd) (T : Txt K mg Cp Cl) (C_refusal_of_row : Callee P w K mg base "refusal_of_row" 2 ["pact", "i", "g"] (sp_refusal_of_row Cp)) (C_taken_of : Callee P w K mg base "taken_of" 5 ["pact", "g"] (sp_taken_of Cp)) : FnOk P w K mg base CX0 6 f fd ["pact", "i", "g"] (sp_mf_row Cp) := by
  refine F.ok sc_mf_row (fun vs H Q E h => ?_) (fun cdv A outer s H vs Q E hr h => ?_)
  · obtain ⟨v, b, i, g, rfl, _⟩ := h
    rfl
  · obtain ⟨v, b, i, g, rfl, hP, G, k⟩ := h
    refine ⟨_, (pss_cons (ps_set (i := 3) sc_mf_row.nd rfl (Or.inl rfl) (pe_callC C_refusal_of_row hr rfl (pa_cons (pv 0) (pa_cons (pv 1) (pa_cons (pv 2) pa_nil)))))
      (pss_cons (ps_if (pt_cmpR op_ne (pv 3) (pe_gi rfl T.g_NO_REFUSAL) (nomark _)) (pss_one (ps_ret (pe_lst (pa_cons (pv 3) pa_nil)))) pss_nil)
      (pss_cons (ps_set (i := 4) sc_mf_row.nd rfl (Or.inl rfl) (pe_ix ix_list (pe_callC C_taken_of hr rfl (pa_cons (pv 0) (pa_cons (pv 2) pa_nil))) (pv 1) (fun _ _ => rfl)))
      (pss_one (ps_ret (pe_op op_cat (pe_op op_cat (pe_lst (pa_cons (pe_callB (cr_sum rfl) (by rfl) T.b_sum (by rfl) (pa_cons (pv 4) pa_nil)) pa_nil)) (pv 4)) (pe_op op_rep (pe_lst (pa_cons pe_int pa_nil)) (pe_op op_sub (pe_gi rfl T.g_ROW_LENGTH) (pe_callB call_len_seq (by rfl) T.b_len PySem.boot_len (pa_cons (pv 4) pa_nil)))))))))), ?_⟩
    refine ⟨_, rfl, _, rfl, _, rfl, _, b, i, g, rfl, hP, ?_⟩
    refine ⟨_, rfl, rfl, _, rfl, ?_⟩
    rcases refR_cases b i g with ⟨h1, e⟩ | ⟨h1, e, hi, hg⟩
    · rw [e]
      refine ⟨_, rfl, (by show 1 ≤ sizeLine; decide), fun p hp => k _ _ (same_new hp) ?_⟩
      have e2 : ans b (.row i g) = [-2] := by unfold ans; simp only [act]; rw [if_pos h1]; rfl
      rw [e2]; exact ans_one hp
    rw [e]
    refine ⟨_, rfl, _, rfl, v, b, g, rfl, hP, G, hg, fun H1 a as s1 R => ?_⟩
    obtain ⟨c, r, a1, a2, a3, a4, a5, a6, a7⟩ := R.get (rows_shape b.n fun i j => tk b i j g) hi hi
    rw [taken_row hi] at a2
    have er : r = (List.range b.n).map fun j => tk b i j g := (Option.some.inj a2).symm
    have n6 := G.n6
    have hc2 : H1 c = some (.lst ((r.map fun (x : Nat) => (x : Int)).map V.int)) := by
      rw [a5, List.map_map]; rfl
    refine ⟨_, rfl, a, _, _, _, rfl, rfl, SqL.of R.lst, atI_nat a6, ?_⟩
    refine ⟨_, rfl, c, _, rfl, SqL.of hc2, (by show 1 ≤ sizeLine; decide), fun l1 n1 => ?_⟩
    refine ⟨_, rfl, l1, c, _, _, rfl, rfl, upd_same, same_new n1 _ _ hc2, ?_, fun l2 n2 => ?_⟩
    · rw [List.length_map, List.length_map, a4, List.length_singleton, sizeLine_eq]; omega
    have s2 := (same_new (o := .lst [V.int (r.map fun (x : Nat) => (x : Int)).sum]) n1).trans (same_new (o := .lst ([V.int (r.map fun (x : Nat) => (x : Int)).sum] ++ (r.map fun (x : Nat) => (x : Int)).map V.int)) n2)
    refine ⟨(by show 1 ≤ sizeLine; decide), fun l3 n3 => ?_⟩
    refine ⟨_, rfl, c, _, rfl, .inl (SqL.of (same_new n3 _ _ (s2 _ _ hc2))), _, _, rfl, rfl, ?_⟩
    rw [List.length_map, List.length_map, a4]
    refine ⟨l3, (6 : Int) - (b.n : Int), [V.int 0], rfl, rfl, upd_same, by omega, by omega, ?_, fun l4 n4 => ?_⟩
    · rw [List.length_singleton, sizeLine_eq]; omega
    refine ⟨l2, l4, _, _, rfl, rfl, same_new n4 _ _ (same_new n3 _ _ upd_same), upd_same, ?_, fun l5 n5 => ?_⟩
    · rw [len_rep, List.length_singleton, List.length_append, List.length_singleton, List.length_map, List.length_map, a4, sizeLine_eq]; omega
    refine k _ _ (((s1.trans s2).trans ((same_new n3).trans (same_new n4))).trans (same_new n5)) ⟨l5, rfl, ?_⟩
    rw [upd_same]
    have e5 : ((6 : Int) - (b.n : Int)).toNat = 6 - b.n := by omega
    rw [e5, flat_zero]
    have e6 : ans b (.row i g) = ((Km482.sum r : Nat) : Int) :: Km482Neutral.nums (r ++ List.replicate (6 - b.n) 0) := by
      unfold ans
      simp only [act]
      rw [if_neg (by rw [no_true, noGood_true]; omega)]
      show ((Km482.sum ((List.range b.n).map fun j => tk b i j g) : Nat) : Int) :: Km482Neutral.nums (Km482.fill STATES ((List.range b.n).map fun j => tk b i j g)) = _
      rw [← er]
      unfold Km482.fill
      rw [a4, List.take_of_length_le (by rw [a4]; exact n6)]
      rfl
    rw [e6, sum_cast]
    unfold Km482Neutral.nums
    rw [List.map_cons, List.map_map, List.map_map, List.map_append]
    rfl
end
end Mf

namespace Mf
open PySem PySem.Spec PyProof.Rows L2 Km482
/-! ### by how much two tables differ -/
def dist (x y : Nat) : Nat := if x < y then y - x else x - y
def gapRow (f h : Nat → Nat → Nat) (i j : Nat) : List Nat := ((List.range j).filter fun j => f i j != h i j).map fun j => dist (f i j) (h i j)
def gapsTo (n : Nat) (f h : Nat → Nat → Nat) (i : Nat) : List Nat := (List.range i).flatMap fun i => gapRow f h i n
theorem gapRow_succ (f h : Nat → Nat → Nat) (i j : Nat) : gapRow f h i (j + 1) = gapRow f h i j ++ (if f i j ≠ h i j then [dist (f i j) (h i j)] else []) := by
  unfold gapRow
  rw [range_filter_succ, List.map_append]
  congr 1
  by_cases e : f i j = h i j
  · rw [if_neg (by simp [e]), if_neg (by simp [e])]; rfl
  · rw [if_pos (by simp [e]), if_pos e]; rfl
theorem gapsTo_succ (n : Nat) (f h : Nat → Nat → Nat) (i : Nat) : gapsTo n f h (i + 1) = gapsTo n f h i ++ gapRow f h i n := by
  unfold gapsTo
  rw [List.range_succ, List.flatMap_append, List.flatMap_cons, List.flatMap_nil, List.append_nil]
theorem rows_at {H : Hp} {v : V} {T : List (List Nat)} {n i j : Nat} (h : isRows H v T) (S : Shape n T) (hi : i < n) (hj : j < n) :
    ∃ l0 rvs l2 r, v = .ref l0 ∧ H l0 = some (.lst rvs) ∧ rvs[i]? = some (.ref l2) ∧ H l2 = some (.lst (r.map nv)) ∧ (r.map nv)[j]? = some (nv (get2 T i j)) ∧ T[i]? = some r := by
  obtain ⟨l0, rvs, rfl, h0, p⟩ := h
  obtain ⟨r, h1, h2, h3⟩ := S.row hi
  obtain ⟨x, hx, l2, rfl, h4⟩ := pd_get' p h1
  refine ⟨l0, rvs, l2, r, rfl, h0, hx, h4, ?_, h1⟩
  rw [List.getElem?_map]
  unfold get2
  rw [h2, List.getD_eq_getElem?_getD, List.getElem?_eq_getElem (by omega)]
  rfl
theorem rows_len {H : Hp} {v : V} {T : List (List Nat)} {n : Nat} (h : isRows H v T) (S : Shape n T) : ∃ l0 rvs, v = .ref l0 ∧ H l0 = some (.lst rvs) ∧ rvs.length = n := by
  obtain ⟨l0, rvs, rfl, h0, p⟩ := h
  exact ⟨l0, rvs, rfl, h0, (pd_len p).trans S.1⟩
/-- a new list of numbers -/
def NewRow (H H' : Hp) (v : V) (l : List Nat) : Prop := ∃ a, v = .ref a ∧ H a = none ∧ H' a = some (.lst (l.map nv))
theorem abs_dist (x y : Nat) : V.int (if (x : Int) - (y : Int) < 0 then -((x : Int) - (y : Int)) else (x : Int) - (y : Int)) = nv (dist x y) := by
  unfold dist
  congr 1
  by_cases h : x < y
  · rw [if_pos h, if_pos (by omega)]; omega
  · rw [if_neg h, if_neg (by omega)]; omega
section
variable {P : Program} {w : World} {K : PySem.W.Frag} {mg : Str → Option Value} {base : Heap} {Cp Cl : Addr}
abbrev s_gaps_between : Stmt := top 36
theorem sc_gaps_between : FnScope ["rows", "others", "gaps", "i", "j"] ["rows", "others"] (defScope s_gaps_between) := ⟨rfl, rfl, rfl, by decide +kernel, rfl, by decide +kernel, by decide +kernel⟩
def sp_gaps_between : Sp := fun vs H Q _ => ∃ v u T S n, vs = [v, u] ∧ isRows H v T ∧ isRows H u S ∧ Shape n T ∧ Shape n S ∧ n ≤ 6 ∧ ∀ v' H', Same H H' → NewRow H H' v' (gapsTo n (get2 T) (get2 S) n) → (gapsTo n (get2 T) (get2 S) n).length ≤ 36 → Q v' H'
theorem ok_gaps_between {f : Addr} {fd : FuncData} (F : Fun K "gaps_between" "gaps_between" s_gaps_between f fd) (T : Txt K mg Cp Cl) : FnOk P w K mg base CX0 1 f fd ["rows", "others"] sp_gaps_between := by
  refine F.ok sc_gaps_between (fun vs H Q E h => ?_) (fun cdv A outer s H vs Q E hr h => ?_)
  · obtain ⟨v, u, T1, T2, n, rfl, _⟩ := h
    rfl
  · obtain ⟨v, u, T1, T2, n, rfl, h1, h2, S1, S2, n6, k⟩ := h
    refine ⟨_, (pss_cons (ps_set (i := 2) sc_gaps_between.nd rfl (Or.inl rfl) (pe_lst pa_nil))
      (pss_cons (ps_for PassesOwn.never rfl (pi_range1 rfl T.b_range (pa_cons (pe_callB call_len_seq (by rfl) T.b_len PySem.boot_len (pa_cons (pv 0) pa_nil)) pa_nil)) (pg_name (i := 3) sc_gaps_between.nd rfl (Or.inl rfl))
      (pss_one (ps_for PassesOwn.never rfl (pi_range1 rfl T.b_range (pa_cons (pe_callB call_len_seq (by rfl) T.b_len PySem.boot_len (pa_cons (pv 0) pa_nil)) pa_nil)) (pg_name (i := 4) sc_gaps_between.nd rfl (Or.inl rfl))
      (pss_one (ps_if (pt_cmpR op_ne (pe_ix ix_list (pe_ix ix_list (pv 0) (pv 3) (fun _ _ => rfl)) (pv 4) (fun _ _ => rfl)) (pe_ix ix_list (pe_ix ix_list (pv 1) (pv 3) (fun _ _ => rfl)) (pv 4) (fun _ _ => rfl)) (nomark _)) (pss_one (ps_expr (pe_bm PySem.F.plainAttrs_list PySem.F.slot_list_append PySem.F.type_list_append mt_append (pv 2) (pa_cons (pe_callB call_abs (by rfl) T.b_abs (by rfl) (pa_cons (pe_op op_sub (pe_ix ix_list (pe_ix ix_list (pv 0) (pv 3) (fun _ _ => rfl)) (pv 4) (fun _ _ => rfl)) (pe_ix ix_list (pe_ix ix_list (pv 1) (pv 3) (fun _ _ => rfl)) (pv 4) (fun _ _ => rfl))) pa_nil)) pa_nil)))) pss_nil)))))
      (pss_one (ps_ret (pv 2))))), ?_⟩
    refine ⟨Nat.zero_le _, fun D hD => ?_⟩
    have s0 : Same H (upd H D (.lst [])) := same_new hD
    obtain ⟨l0, rvs, rfl, e0, len0⟩ := rows_len h1 S1
    refine ⟨_, rfl, l0, rvs, rfl, .inl (SqL.of (s0 _ _ e0)), ?_⟩
    refine ⟨_, rfl, by omega, by omega, for_range (fun i σ H' => ∃ o3 o4, σ = [some (.ref l0), some u, some (.ref D), o3, o4] ∧ Same H H' ∧ H' D = some (.lst ((gapsTo n (get2 T1) (get2 T2) i).map nv)) ∧ (gapsTo n (get2 T1) (get2 T2) i).length ≤ 6 * i) ?_ ?_ ?_⟩
    · exact ⟨none, none, rfl, s0, upd_same, Nat.le_refl _⟩
    · rintro i σ H' hi ⟨o3, o4, rfl, s1, hD', hl⟩
      have ei : (0 + (i : Int)) = (i : Int) := by omega
      rw [ei]
      have hi : i < n := by omega
      refine ⟨_, rfl, l0, rvs, rfl, .inl (SqL.of (s1 _ _ e0)), ?_⟩
      refine ⟨_, rfl, by omega, by omega, for_range (fun j σ H2 => ∃ o4, σ = [some (.ref l0), some u, some (.ref D), some (nv i), o4] ∧ Same H H2 ∧ H2 D = some (.lst ((gapsTo n (get2 T1) (get2 T2) i ++ gapRow (get2 T1) (get2 T2) i j).map nv)) ∧ (gapsTo n (get2 T1) (get2 T2) i ++ gapRow (get2 T1) (get2 T2) i j).length ≤ 6 * i + j) ?_ ?_ ?_⟩
      · refine ⟨o4, rfl, s1, ?_, ?_⟩
        · rw [show gapRow (get2 T1) (get2 T2) i 0 = [] from rfl, List.append_nil]; exact hD'
        · rw [show gapRow (get2 T1) (get2 T2) i 0 = [] from rfl, List.append_nil]; omega
      · rintro j σ H2 hj ⟨o4', rfl, s2, hD2, hl2⟩
        have ej : (0 + (j : Int)) = (j : Int) := by omega
        rw [ej]
        have hj : j < n := by omega
        obtain ⟨a0, avs, a2, ar, za, a3, a4, a5, a6, _⟩ := rows_at h1 S1 hi hj
        cases za
        obtain ⟨b0, bvs, b2, br, rfl, b3, b4, b5, b6, _⟩ := rows_at h2 S2 hi hj
        refine ⟨_, rfl, _, rfl, l0, _, _, _, rfl, rfl, SqL.of (s2 _ _ a3), atI_nat a4, _, rfl, a2, _, _, _, rfl, rfl, SqL.of (s2 _ _ a5), atI_nat a6, _, rfl, _, rfl, b0, _, _, _, rfl, rfl, SqL.of (s2 _ _ b3), atI_nat b4, _, rfl, b2, _, _, _, rfl, rfl, SqL.of (s2 _ _ b5), atI_nat b6, rfl, _, rfl, ite2 (fun e => ?_) (fun e => ?_)⟩
        · have ne : get2 T1 i j ≠ get2 T2 i j := fun z => by rw [z] at e; simp at e
          refine ⟨_, rfl, .inl ⟨rfl, _, SqL.of hD2⟩, ?_⟩
          refine ⟨_, rfl, _, rfl, l0, _, _, _, rfl, rfl, SqL.of (s2 _ _ a3), atI_nat a4, _, rfl, a2, _, _, _, rfl, rfl, SqL.of (s2 _ _ a5), atI_nat a6, _, rfl, _, rfl, b0, _, _, _, rfl, rfl, SqL.of (s2 _ _ b3), atI_nat b4, _, rfl, b2, _, _, _, rfl, rfl, SqL.of (s2 _ _ b5), atI_nat b6, _, _, rfl, rfl, _, rfl, ?_⟩
          rw [abs_dist]
          refine ⟨D, _, _, rfl, rfl, hD2, ?_, ?_⟩
          · rw [List.length_map, sizeLine_eq]; omega
          · refine ⟨_, rfl, fun b' o eb => ?_, ?_, ?_⟩
            · rw [upd_ne (ne_of_none eb hD)]; exact s2 _ _ eb
            · rw [upd_same, gapRow_succ, if_pos ne, ← List.append_assoc, List.map_append (l₂ := [_])]; rfl
            · rw [gapRow_succ, if_pos ne, ← List.append_assoc, List.length_append, List.length_singleton]; omega
        · have ee : get2 T1 i j = get2 T2 i j := Classical.byContradiction fun z => e (by simp; omega)
          refine ⟨_, rfl, s2, ?_, ?_⟩
          · rw [gapRow_succ, if_neg (fun z => z ee), List.append_nil]; exact hD2
          · rw [gapRow_succ, if_neg (fun z => z ee), List.append_nil]; omega
      · rintro σ H2 ⟨o4', rfl, s2, hD2, hl2⟩
        rw [Int.toNat_natCast, len0] at hD2 hl2
        refine ⟨_, _, rfl, s2, ?_, ?_⟩
        · rw [gapsTo_succ]; exact hD2
        · rw [gapsTo_succ]; omega
    · rintro σ H' ⟨o3, o4, rfl, s1, hD', hl⟩
      rw [Int.toNat_natCast, len0] at hD' hl
      exact ⟨_, rfl, k _ _ s1 ⟨D, rfl, hD, hD'⟩ (by omega)⟩
abbrev s_falls_of : Stmt := top 37
theorem sc_falls_of : FnScope ["pact", "falls", "g"] ["pact"] (defScope s_falls_of) := ⟨rfl, rfl, rfl, by decide +kernel, rfl, by decide +kernel, by decide +kernel⟩
def fallsG (b : Book) (g : Nat) : List Nat := gapsTo b.n (get2 (laidRows b g)) (get2 (takenRows b g)) b.n
def fallsL (b : Book) (m : Nat) : List Nat := (List.range m).flatMap (fallsG b)
def sp_falls_of (Cp : Addr) : Sp := fun vs H Q _ => ∃ v b, vs = [v] ∧ isPact Cp H v b ∧ Good b ∧ ∀ v' H', Same H H' → NewRow H H' v' (fallsL b b.m) → (fallsL b b.m).length ≤ 108 → Q v' H'
theorem laid_rows {H : Hp} {vl : V} {b : Book} {g : Nat} (h : LstOf isRows H vl (laid3 b)) (hg : g < b.m) : ∃ l0 lvs v1, vl = .ref l0 ∧ H l0 = some (.lst lvs) ∧ lvs[g]? = some v1 ∧ isRows H v1 (laidRows b g) := by
  obtain ⟨l0, lvs, rfl, h0, p0⟩ := h
  have hrow : (laid3 b)[g]? = some (laidRows b g) := by
    unfold laid3
    rw [List.getElem?_map, range_get hg]; rfl
  obtain ⟨v1, e1, h1⟩ := pd_get' p0 hrow
  exact ⟨l0, lvs, v1, rfl, h0, e1, h1⟩
theorem ok_falls_of {f : Addr} {fd : FuncData} (F : Fun K "falls_of" "falls_of" s_falls_of f fd) (T : Txt K mg Cp Cl) (C_gaps_between : Callee P w K mg base "gaps_between" 1 ["rows", "others"] sp_gaps_between) (C_taken_of : Callee P w K mg base "taken_of" 5 ["pact", "g"] (sp_taken_of Cp)) : FnOk P w K mg base CX0 6 f fd ["pact"] (sp_falls_of Cp) := by
  refine F.ok sc_falls_of (fun vs H Q E h => ?_) (fun cdv A outer s H vs Q E hr h => ?_)
  · obtain ⟨v, b, rfl, _⟩ := h
    rfl
  · obtain ⟨v, b, rfl, hP, G, k⟩ := h
    refine ⟨_, (pss_cons (ps_set (i := 1) sc_falls_of.nd rfl (Or.inl rfl) (pe_lst pa_nil))
      (pss_cons (ps_for PassesOwn.never rfl (pi_range1 rfl T.b_range (pa_cons (pe_fld (pv 0) rfl) pa_nil)) (pg_name (i := 2) sc_falls_of.nd rfl (Or.inl rfl))
      (pss_one (ps_expr (pe_bm PySem.F.plainAttrs_list PySem.F.slot_list_extend PySem.F.type_list_extend mt_extend (pv 1) (pa_cons (pe_callC C_gaps_between hr rfl (pa_cons (pe_ix ix_list (pe_fld (pv 0) rfl) (pv 2) (fun _ _ => rfl)) (pa_cons (pe_callC C_taken_of hr rfl (pa_cons (pv 0) (pa_cons (pv 2) pa_nil))) pa_nil))) pa_nil)))))
      (pss_one (ps_ret (pv 1))))), ?_⟩
    refine ⟨Nat.zero_le _, fun D hD => ?_⟩
    have s0 : Same H (upd H D (.lst [])) := same_new hD
    have hP0 := hP
    obtain ⟨a, dx, fs, vl, vc, vu, rfl, ha, f1, f2, f3, f4, f5, r1, r2, r3⟩ := hP0
    have m3 := G.m3
    refine ⟨_, rfl, a, Cp, dx, _, _, rfl, s0 _ _ ha, T.cl_Pact, T.a_goods, f2, ?_⟩
    refine ⟨(b.m : Int), rfl, by omega, by omega, for_range (fun g σ H' => ∃ o2, σ = [some (.ref a), some (.ref D), o2] ∧ Same H H' ∧ H' D = some (.lst ((fallsL b g).map nv)) ∧ (fallsL b g).length ≤ 36 * g) ?_ ?_ ?_⟩
    · exact ⟨none, rfl, s0, upd_same, Nat.le_refl _⟩
    · rintro g σ H' hg ⟨o2, rfl, s1, hD', hl⟩
      have eg : (0 + (g : Int)) = (g : Int) := by omega
      rw [eg]
      have hg : g < b.m := by omega
      obtain ⟨l0, lvs, v1, rfl, q0, q1, q2⟩ := laid_rows r1 hg
      refine ⟨_, rfl, .inl ⟨rfl, _, SqL.of hD'⟩, ?_⟩
      refine ⟨_, rfl, a, Cp, dx, _, _, rfl, s1 _ _ ha, T.cl_Pact, T.a_laid, f3, _, rfl, l0, _, _, _, rfl, rfl, SqL.of (s1 _ _ q0), atI_nat q1, ?_⟩
      refine ⟨_, rfl, _, rfl, _, b, g, rfl, st_Pact T.ne _ _ _ _ (Keep.of s1) hP, G, hg, fun H2 ta as s2 R2 => ?_⟩
      refine ⟨_, _, laidRows b g, takenRows b g, b.n, rfl, st_Rows (Cl := Cl) _ _ _ _ (Keep.of (s1.trans s2)) q2, R2.rows, rows_shape _ _, rows_shape _ _, G.n6, fun v' H3 s3 hv' hl3 => ?_⟩
      obtain ⟨ga, rfl, nga, hga⟩ := hv'
      have hD3 := s3 _ _ (s2 _ _ hD')
      refine ⟨D, ga, _, _, rfl, rfl, hD3, hga, ?_, ?_⟩
      · have hl3' : (fallsG b g).length ≤ 36 := hl3
        rw [List.length_map, List.length_map, sizeLine_eq]
        show (fallsL b g).length + (fallsG b g).length ≤ _
        omega
      · have ef : fallsL b (g + 1) = fallsL b g ++ fallsG b g := by
          unfold fallsL
          rw [List.range_succ, List.flatMap_append, List.flatMap_cons, List.flatMap_nil, List.append_nil]
        refine ⟨_, rfl, fun b' o eb => ?_, ?_, ?_⟩
        · rw [upd_ne (ne_of_none eb hD)]; exact s3 _ _ (s2 _ _ (s1 _ _ eb))
        · rw [upd_same, ef, List.map_append]; rfl
        · have hl3' : (fallsG b g).length ≤ 36 := hl3
          rw [ef, List.length_append]; omega
    · rintro σ H' ⟨o2, rfl, s1, hD', hl⟩
      rw [Int.toNat_natCast] at hD' hl
      exact ⟨_, rfl, k _ _ s1 ⟨D, rfl, hD, hD'⟩ (by omega)⟩
end
end Mf

namespace Mf
open Km482
theorem dist_comm (x y : Nat) : dist x y = dist y x := by unfold dist; split <;> split <;> omega
theorem dist_zero {x y : Nat} : dist x y = 0 ↔ x = y := by unfold dist; split <;> omega
theorem flat_congr {α β : Type} {f g : α → List β} : ∀ {l : List α}, (∀ x ∈ l, f x = g x) → l.flatMap f = l.flatMap g
  | [], _ => rfl
  | x :: l, h => by rw [List.flatMap_cons, List.flatMap_cons, h x (by simp), flat_congr (l := l) fun y hy => h y (by simp [hy])]
theorem gapRow_eq (f h : Nat → Nat → Nat) (i j : Nat) : gapRow f h i j = ((List.range j).map fun j => dist (f i j) (h i j)).filter (· != 0) := by
  unfold gapRow
  rw [List.filter_map]
  congr 1
  apply List.filter_congr
  intro x _
  show (f i x != h i x) = (dist (f i x) (h i x) != 0)
  rw [Bool.eq_iff_iff, bne_iff_ne, bne_iff_ne, Ne, Ne, dist_zero]
theorem filter_off {F : Nat → Nat} {i : Nat} (h : F i = 0) : ∀ l : List Nat, ((l.filter fun j => j != i).map F).filter (· != 0) = (l.map F).filter (· != 0)
  | [] => rfl
  | x :: l => by
    by_cases e : x = i
    · subst e
      rw [List.filter_cons_of_neg (by simp), List.map_cons, List.filter_cons_of_neg (by simp [h])]
      exact filter_off h l
    · rw [List.filter_cons_of_pos (by simp [e]), List.map_cons, List.map_cons]
      by_cases z : F x = 0
      · rw [List.filter_cons_of_neg (by simp [z]), List.filter_cons_of_neg (by simp [z])]
        exact filter_off h l
      · rw [List.filter_cons_of_pos (by simp [z]), List.filter_cons_of_pos (by simp [z]), filter_off h l]
theorem gaps_pairs (b : Book) (u v : Nat → Nat → Nat) (hd : ∀ i, i < b.n → u i i = v i i) : gapsTo b.n u v b.n = (b.pairs.map fun p => dist (u p.1 p.2) (v p.1 p.2)).filter (· != 0) := by
  unfold gapsTo Book.pairs Book.states
  rw [List.map_flatMap, List.filter_flatMap]
  refine flat_congr fun i hi => ?_
  rw [gapRow_eq, List.map_map]
  exact (filter_off (F := fun j => dist (u i j) (v i j)) (by rw [dist_zero]; exact hd i (List.mem_range.mp hi)) _).symm
theorem differs_flat {ps : List (Nat × Nat)} (A B : Nat → Nat × Nat → Nat) : ∀ gs : List Nat, differs (gs.flatMap fun g => ps.map (A g)) (gs.flatMap fun g => ps.map (B g)) = gs.flatMap fun g => (ps.map fun p => dist (A g p) (B g p)).filter (· != 0)
  | [] => rfl
  | g :: gs => by
    have ih := differs_flat (ps := ps) A B gs
    unfold differs at ih ⊢
    rw [List.flatMap_cons, List.flatMap_cons, List.flatMap_cons, List.zip_append (by rw [List.length_map, List.length_map]), List.map_append, List.filter_append, ih, List.zip_map', List.map_map]
    rfl
theorem get_laid {b : Book} {g : Nat} {i j : Nat} (hi : i < b.n) (hj : j < b.n) : get2 (laidRows b g) i j = b.duty i j g := by unfold laidRows; exact rows_get hi hj
theorem get_taken {b : Book} {g : Nat} {i j : Nat} (hi : i < b.n) (hj : j < b.n) : get2 (takenRows b g) i j = tk b i j g := by unfold takenRows; exact rows_get hi hj
theorem tk_pair {b : Book} {i j g : Nat} (h : i ≠ j) : tk b i j g = b.takes i j g := by unfold tk; rw [if_neg h]
theorem all_duty (b : Book) : (b.all.map fun x => b.duty x.1 x.2.1 x.2.2) = b.goods.flatMap fun g => b.pairs.map fun p => b.duty p.1 p.2 g := by
  unfold Book.all
  rw [List.map_flatMap]
  refine flat_congr fun g _ => ?_
  rw [List.map_map]; rfl
theorem falls_eq {b : Book} (G : Good b) : differs b.each (b.all.map fun x => b.duty x.1 x.2.1 x.2.2) = fallsL b b.m := by
  rw [each_eq, all_duty, differs_flat (fun g p => b.takes p.1 p.2 g) (fun g p => b.duty p.1 p.2 g)]
  unfold fallsL Book.goods
  refine flat_congr fun g hg => ?_
  have hg := List.mem_range.mp hg
  unfold fallsG
  rw [gaps_pairs b _ _ (fun i hi => by rw [get_laid hi hi, get_taken hi hi, G.diag i g hi hg]; unfold tk; rw [if_pos rfl])]
  congr 1
  refine List.map_congr_left fun p hp => ?_
  obtain ⟨h1, h2, h3⟩ := pairs_mem.mp hp
  rw [get_laid h1 h2, get_taken h1 h2, tk_pair h3, dist_comm]
theorem falls_nil {b : Book} (G : Good b) : fallsL b b.m = [] ↔ b.settled = b := by
  rw [settled_iff G, ← falls_eq G, each_eq, all_duty, differs_flat (fun g p => b.takes p.1 p.2 g) (fun g p => b.duty p.1 p.2 g), List.flatMap_eq_nil_iff]
  constructor
  · intro h i j g hp hg
    have := List.filter_eq_nil_iff.mp (h g (by unfold Book.goods; exact List.mem_range.mpr hg)) _ (List.mem_map.mpr ⟨(i, j), pairs_mem.mpr hp, rfl⟩)
    simp only [bne_iff_ne, ne_eq, Decidable.not_not] at this
    exact dist_zero.mp this
  · intro h g hg
    rw [List.filter_eq_nil_iff]
    intro x hx
    obtain ⟨p, hp, rfl⟩ := List.mem_map.mp hx
    have := h p.1 p.2 g (pairs_mem.mp hp) (List.mem_range.mp (by unfold Book.goods at hg; exact hg))
    simp only [bne_iff_ne, ne_eq, Decidable.not_not]
    exact dist_zero.mpr this
/-! ### would -/
theorem far_set {b : Book} {i j g x : Nat} (p : Nat × Nat) : (b.set i j g x).far p = b.far p := by
  have go : ∀ (f : Nat) (l : List (Nat × Nat)), (b.set i j g x).farGo f l = b.farGo f l := by
    intro f
    induction f with
    | zero => intro l; rfl
    | succ f ih =>
      intro l
      simp only [Book.farGo, ih]
      rfl
  exact go _ _
theorem takes_set {b : Book} (G : Good b) {i j g x i' j' g' : Nat} (hi : i < b.n) (hj : j < b.n) (hg : g < b.m) (hp : pairB b.n (i', j')) (ne : g' ≠ g) : (b.set i j g x).takes i' j' g' = b.takes i' j' g' := by
  unfold Book.takes Book.least
  rw [far_set, duty_set G hi hj hg hp.1 hp.2.1, if_neg (fun z => ne z.2.2)]
  congr 1
  refine List.map_congr_left fun q hq => ?_
  have hq := hangs_pairB G hp ((far_mem G hp q).mp hq)
  rw [duty_set G hi hj hg hq.1 hq.2.1, if_neg (fun z => ne z.2.2)]
theorem flat_one {β : Type} {f : Nat → List β} {m g : Nat} (hg : g < m) (h : ∀ g', g' < m → g' ≠ g → f g' = []) : (List.range m).flatMap f = f g := by
  induction m with
  | zero => omega
  | succ m ih =>
    rw [List.range_succ, List.flatMap_append, List.flatMap_cons, List.flatMap_nil, List.append_nil]
    by_cases e : g = m
    · subst e
      have : (List.range g).flatMap f = [] := List.flatMap_eq_nil_iff.mpr fun x hx => by have := List.mem_range.mp hx; exact h x (by omega) (by omega)
      rw [this, List.nil_append]
    · rw [ih (by omega) fun g' h1 h2 => h g' (by omega) h2, h m (by omega) (fun z => e z.symm), List.append_nil]
theorem would_eq {b : Book} (G : Good b) {i j g x : Nat} (hi : i < b.n) (hj : j < b.n) (hg : g < b.m) : differs (b.set i j g x).each b.each = gapsTo b.n (get2 (takenRows b g)) (get2 (takenRows (b.set i j g x) g)) b.n := by
  have ep : (b.set i j g x).pairs = b.pairs := rfl
  have eg : (b.set i j g x).goods = b.goods := rfl
  rw [each_eq, each_eq, ep, eg, differs_flat (fun g' p => (b.set i j g x).takes p.1 p.2 g') (fun g' p => b.takes p.1 p.2 g')]
  unfold Book.goods
  rw [flat_one hg]
  · rw [gaps_pairs b _ _ (fun i' hi' => by
      rw [get_taken hi' hi', show get2 (takenRows (b.set i j g x) g) i' i' = tk (b.set i j g x) i' i' g from get_taken (b := b.set i j g x) hi' hi']
      unfold tk; rw [if_pos rfl, if_pos rfl])]
    congr 1
    refine List.map_congr_left fun p hp => ?_
    obtain ⟨h1, h2, h3⟩ := pairs_mem.mp hp
    rw [get_taken h1 h2, show get2 (takenRows (b.set i j g x) g) p.1 p.2 = tk (b.set i j g x) p.1 p.2 g from get_taken (b := b.set i j g x) h1 h2, tk_pair h3, tk_pair h3, dist_comm]
  · intro g' h1 h2
    rw [List.filter_eq_nil_iff]
    intro y hy
    obtain ⟨p, hp, rfl⟩ := List.mem_map.mp hy
    simp only [bne_iff_ne, ne_eq, Decidable.not_not]
    exact dist_zero.mpr (takes_set G hi hj hg (pairs_mem.mp hp) h2)
/-! ### kept -/
theorem kept_iff {b : Book} (G : Good b) : (b.goods.all fun g => b.kept g fun i j => b.duty i j g) = true ↔ ∀ g, g < b.m → ∀ p ∈ boundsAll b, b.duty p.1.1 p.1.2 g ≤ b.duty p.2.1 p.2.2 g := by
  unfold Book.goods Book.kept
  simp only [List.all_eq_true, List.mem_range, Bool.and_eq_true, decide_eq_true_eq]
  constructor
  · intro h g hg p hp
    have hp := boundsAll_mem.mp hp
    exact (h g hg p.1 (pairs_mem.mpr (unders_pairB G hp).2) p.2 hp).1
  · intro h g hg p hp q hq
    exact ⟨h g hg (p, q) (boundsAll_mem.mpr hq), hg⟩
/-! ### idle -/
theorem without_unders {b : Book} {c : Nat} {i j : Nat} {q : Nat × Nat} (h : q ∈ (b.without c).unders i j) : q ∈ b.unders i j := by
  obtain ⟨d, hd, hq⟩ := unders_mem.mp h
  exact unders_mem.mpr ⟨d, without_sub _ _ _ hd, hq⟩
theorem without_within {b : Book} {c : Nat} {p : Nat × Nat} : ∀ (k : Nat) (q : Nat × Nat), within (b.without c) k p q → within b k p q
  | 0, _, h => h
  | k + 1, q, h => by
    rcases h with h | ⟨r, h1, h2⟩
    · exact .inl (without_within k q h)
    · exact .inr ⟨r, without_within k r h1, without_unders h2⟩
theorem without_hangs {b : Book} {c : Nat} {p q : Nat × Nat} (h : hangs (b.without c) p q) : hangs b p q := by
  obtain ⟨k, hk⟩ := h
  exact ⟨k, without_within k q hk⟩
theorem without_takes {b : Book} (G : Good b) {c : Nat} {i j g : Nat} (hp : pairB b.n (i, j)) : b.takes i j g ≤ (b.without c).takes i j g := by
  obtain ⟨q, hq, e⟩ := takes_at (good_without G c) (i := i) (j := j) hp g
  rw [e]
  exact takes_le G hp (without_hangs hq)
theorem idle_one {b : Book} (G : Good b) {c : Nat} {cl : Clause} (hc : b.clauses[c]? = some cl) {g : Nat} (h : (b.without c).takes cl.i cl.j g = b.takes cl.i cl.j g) : ∀ i j, pairB b.n (i, j) → (b.without c).takes i j g = b.takes i j g := by
  have G' := good_without G c
  refine takes_unique G (fun i j hp => takes_le_duty (b := b.without c) G' hp) (fun i j q hq => ?_) (fun i j hp => ?_)
  · have hij := (unders_pairB G hq).2
    have hqp := (unders_pairB G hq).1
    by_cases e : q ∈ (b.without c).unders i j
    · exact takes_kept (b := b.without c) G' hij e
    · -- by the clause that is gone
      obtain ⟨d, hd, hqd⟩ := unders_mem.mp hq
      have hdc : d = cl := by
        apply Classical.byContradiction
        intro ne
        apply e
        refine unders_mem.mpr ⟨d, ?_, hqd⟩
        show d ∈ b.clauses.take c ++ b.clauses.drop (c + 1)
        obtain ⟨k, hk⟩ := List.getElem?_of_mem hd
        rw [List.mem_append]
        rcases Nat.lt_trichotomy k c with z | z | z
        · left
          exact List.mem_of_getElem? (show (b.clauses.take c)[k]? = some d by rw [List.getElem?_take_of_lt z]; exact hk)
        · subst z
          rw [hk] at hc
          exact absurd (Option.some.inj hc) ne
        · right
          exact List.mem_of_getElem? (show (b.clauses.drop (c + 1))[k - (c + 1)]? = some d by rw [List.getElem?_drop]; rw [show c + 1 + (k - (c + 1)) = k by omega]; exact hk)
      subst hdc
      obtain ⟨e1, e2, _⟩ := under_mem.mp hqd
      subst e1 e2
      rw [h]
      exact Nat.le_trans (takes_kept G hij hq) (without_takes G hqp)
  · obtain ⟨q, hq, e⟩ := takes_at G' (i := i) (j := j) hp g
    exact ⟨q, without_hangs hq, e⟩
theorem idle_iff {b : Book} (G : Good b) {c : Nat} {cl : Clause} (hc : b.clauses[c]? = some cl) : ((b.without c).each == b.each) = decide (∀ g, g < b.m → (b.without c).takes cl.i cl.j g = b.takes cl.i cl.j g) := by
  rw [Bool.eq_iff_iff, beq_iff_eq, decide_eq_true_iff, each_eq, each_eq]
  have C := G.cok cl (List.mem_of_getElem? hc)
  have hp : pairB b.n (cl.i, cl.j) := ⟨C.i, C.j, C.ij⟩
  constructor
  · intro h g hg
    -- at the place of the pair and the good
    have key : ∀ (gs : List Nat), (gs.flatMap fun g => b.pairs.map fun p => (b.without c).takes p.1 p.2 g) = (gs.flatMap fun g => b.pairs.map fun p => b.takes p.1 p.2 g) → ∀ g ∈ gs, ∀ p ∈ b.pairs, (b.without c).takes p.1 p.2 g = b.takes p.1 p.2 g := by
      intro gs
      induction gs with
      | nil => intro _ g hg; simp at hg
      | cons x gs ih =>
        intro h g hg
        rw [List.flatMap_cons, List.flatMap_cons] at h
        obtain ⟨h1, h2⟩ := List.append_inj h (by rw [List.length_map, List.length_map])
        rcases List.mem_cons.mp hg with z | z
        · subst z
          exact fun p hp => List.map_inj_left.mp h1 p hp
        · exact ih h2 g z
    exact key _ h g (by unfold Book.goods; exact List.mem_range.mpr hg) (cl.i, cl.j) (pairs_mem.mpr hp)
  · intro h
    show (b.goods.flatMap fun g => b.pairs.map fun p => (b.without c).takes p.1 p.2 g) = _
    refine flat_congr fun g hg => List.map_congr_left fun p hp => ?_
    exact idle_one G hc (h g (List.mem_range.mp hg)) p.1 p.2 (pairs_mem.mp hp)
end Mf

namespace Mf
open PySem PySem.Spec PyProof.Rows L2 Km482
theorem ref4_cases (b : Book) (i j g x : Nat) : ((b.no i j = true ∨ b.noGood g = true) ∧ ref4 b i j g x = -2) ∨ (¬ (b.no i j = true ∨ b.noGood g = true) ∧ (i = j ∨ MOST < x) ∧ ref4 b i j g x = -22) ∨
    (¬ (b.no i j = true ∨ b.noGood g = true) ∧ ¬ (i = j ∨ MOST < x) ∧ ref4 b i j g x = 0 ∧ i < b.n ∧ j < b.n ∧ g < b.m) := by
  unfold ref4
  rcases ref3_cases b i j g with ⟨h1, e⟩ | ⟨h1, h2, e⟩ | ⟨h1, h2, e, hi, hj, hg⟩
  · left; rw [e]; exact ⟨h1, if_neg (by omega)⟩
  · right; left; rw [e]; exact ⟨h1, .inl h2, if_neg (by omega)⟩
  · right
    rw [e]
    by_cases hx : 100 < x
    · left; exact ⟨h1, .inr hx, if_pos ⟨rfl, hx⟩⟩
    · right
      exact ⟨h1, fun z => z.elim h2 hx, if_neg (fun z => hx z.2), hi, hj, hg⟩
theorem map_nv_int (l : List Nat) : l.map nv = (l.map fun (x : Nat) => (x : Int)).map V.int := by rw [List.map_map]; rfl
section
variable {P : Program} {w : World} {K : PySem.W.Frag} {mg : Str → Option Value} {base : Heap} {Cp Cl : Addr}
abbrev s_mf_falls : Stmt := top 75
theorem sc_mf_falls : FnScope ["pact", "falls"] ["pact"] (defScope s_mf_falls) := ⟨rfl, rfl, rfl, by decide +kernel, rfl, by decide +kernel, by decide +kernel⟩
def sp_mf_falls (Cp : Addr) : Sp := fun vs H Q _ => ∃ v b, vs = [v] ∧ isPact Cp H v b ∧ Good b ∧ ∀ v' H', Same H H' → isAns H' v' (ans b .falls) → Q v' H'
theorem ok_mf_falls {f : Addr} {fd : FuncData} (F : Fun K "mf_falls" "mf_falls" s_mf_falls f fd) (T : Txt K mg Cp Cl) (C_falls_of : Callee P w K mg base "falls_of" 6 ["pact"] (sp_falls_of Cp)) : FnOk P w K mg base CX0 7 f fd ["pact"] (sp_mf_falls Cp) := by
  refine F.ok sc_mf_falls (fun vs H Q E h => ?_) (fun cdv A outer s H vs Q E hr h => ?_)
  · obtain ⟨v, b, rfl, _⟩ := h
    rfl
  · obtain ⟨v, b, rfl, hP, G, k⟩ := h
    refine ⟨_, (pss_cons (ps_set (i := 1) sc_mf_falls.nd rfl (Or.inl rfl) (pe_callC C_falls_of hr rfl (pa_cons (pv 0) pa_nil)))
      (pss_one (ps_ret (pe_lst (pa_cons (pe_callB call_len_seq (by rfl) T.b_len PySem.boot_len (pa_cons (pv 1) pa_nil)) (pa_cons (pe_callB (cr_sum rfl) (by rfl) T.b_sum (by rfl) (pa_cons (pv 1) pa_nil)) pa_nil)))))), ?_⟩
    refine ⟨_, rfl, _, b, rfl, hP, G, fun v' H1 s1 hv hl => ?_⟩
    obtain ⟨a, rfl, na, ha⟩ := hv
    have ha2 := ha
    rw [map_nv_int] at ha2
    refine ⟨_, rfl, a, _, rfl, .inl (SqL.of ha), _, rfl, a, _, rfl, SqL.of ha2, (by show 2 ≤ sizeLine; decide), fun p hp => k _ _ (s1.trans (same_new hp)) ⟨p, rfl, ?_⟩⟩
    rw [upd_same]
    have e : ans b .falls = [((fallsL b b.m).length : Int), ((Km482.sum (fallsL b b.m) : Nat) : Int)] := by
      unfold ans
      simp only [act]
      rw [falls_eq G]; rfl
    rw [e, sum_cast, List.length_map]; rfl
abbrev s_mf_would : Stmt := top 76
theorem sc_mf_would : FnScope ["pact", "i", "j", "g", "x", "refusal", "gaps"] ["pact", "i", "j", "g", "x"] (defScope s_mf_would) := ⟨rfl, rfl, rfl, by decide +kernel, rfl, by decide +kernel, by decide +kernel⟩
def sp_mf_would (Cp : Addr) : Sp := fun vs H Q _ => ∃ v b i j g x, vs = [v, nv i, nv j, nv g, nv x] ∧ isPact Cp H v b ∧ Good b ∧ ∀ v' H', Same H H' → isAns H' v' (ans b (.would i j g x)) → Q v' H'
theorem ok_mf_would {f : Addr} {fd : FuncData} (F : Fun K "mf_would" "mf_would" s_mf_would f fd) (T : Txt K mg Cp Cl) (C_refusal_of_laying : Callee P w K mg base "refusal_of_laying" 4 ["pact", "i", "j", "g", "x"] (sp_refusal_of_laying Cp)) (C_gaps_between : Callee P w K mg base "gaps_between" 1 ["rows", "others"] sp_gaps_between) (C_taken_of : Callee P w K mg base "taken_of" 5 ["pact", "g"] (sp_taken_of Cp)) (C_with_duty : Callee P w K mg base "with_duty" 4 ["pact", "i", "j", "g", "x"] (sp_with_duty Cp)) : FnOk P w K mg base CX0 6 f fd ["pact", "i", "j", "g", "x"] (sp_mf_would Cp) := by
  refine F.ok sc_mf_would (fun vs H Q E h => ?_) (fun cdv A outer s H vs Q E hr h => ?_)
  · obtain ⟨v, b, i, j, g, x, rfl, _⟩ := h
    rfl
  · obtain ⟨v, b, i, j, g, x, rfl, hP, G, k⟩ := h
    refine ⟨_, (pss_cons (ps_set (i := 5) sc_mf_would.nd rfl (Or.inl rfl) (pe_callC C_refusal_of_laying hr rfl (pa_cons (pv 0) (pa_cons (pv 1) (pa_cons (pv 2) (pa_cons (pv 3) (pa_cons (pv 4) pa_nil)))))))
      (pss_cons (ps_if (pt_cmpR op_ne (pv 5) (pe_gi rfl T.g_NO_REFUSAL) (nomark _)) (pss_one (ps_ret (pe_lst (pa_cons (pv 5) pa_nil)))) pss_nil)
      (pss_cons (ps_set (i := 6) sc_mf_would.nd rfl (Or.inl rfl) (pe_callC C_gaps_between hr rfl (pa_cons (pe_callC C_taken_of hr rfl (pa_cons (pv 0) (pa_cons (pv 3) pa_nil))) (pa_cons (pe_callC C_taken_of hr rfl (pa_cons (pe_callC C_with_duty hr rfl (pa_cons (pv 0) (pa_cons (pv 1) (pa_cons (pv 2) (pa_cons (pv 3) (pa_cons (pv 4) pa_nil)))))) (pa_cons (pv 3) pa_nil))) pa_nil))))
      (pss_one (ps_ret (pe_lst (pa_cons (pe_callB call_len_seq (by rfl) T.b_len PySem.boot_len (pa_cons (pv 6) pa_nil)) (pa_cons (pe_callB (cr_sum rfl) (by rfl) T.b_sum (by rfl) (pa_cons (pv 6) pa_nil)) pa_nil)))))))), ?_⟩
    refine ⟨_, rfl, _, rfl, _, rfl, _, rfl, _, rfl, _, b, i, j, g, x, rfl, hP, ?_⟩
    refine ⟨_, rfl, rfl, _, rfl, ?_⟩
    rcases ref4_cases b i j g x with ⟨h1, e⟩ | ⟨h1, h2, e⟩ | ⟨h1, h2, e, hi, hj, hg⟩
    · rw [e]
      refine ⟨_, rfl, (by show 1 ≤ sizeLine; decide), fun p hp => k _ _ (same_new hp) ?_⟩
      have e2 : ans b (.would i j g x) = [-2] := by unfold ans; simp only [act]; rw [if_pos h1]; rfl
      rw [e2]; exact ans_one hp
    · rw [e]
      refine ⟨_, rfl, (by show 1 ≤ sizeLine; decide), fun p hp => k _ _ (same_new hp) ?_⟩
      have e2 : ans b (.would i j g x) = [-22] := by unfold ans; simp only [act]; rw [if_neg h1, if_pos h2]; rfl
      rw [e2]; exact ans_one hp
    · rw [e]
      have hij : i ≠ j := fun z => h2 (.inl z)
      have hx : x ≤ 100 := Nat.le_of_not_lt fun z => h2 (.inr z)
      refine ⟨_, rfl, _, rfl, v, b, g, rfl, hP, G, hg, fun H1 ta as s1 R1 => ?_⟩
      refine ⟨_, rfl, _, rfl, _, rfl, _, rfl, _, rfl, v, b, i, j, g, x, rfl, st_Pact T.ne _ _ _ _ (Keep.of s1) hP, G, hi, hj, hg, fun v2 H2 s2 hP2 => ?_⟩
      refine ⟨_, rfl, v2, b.set i j g x, g, rfl, hP2, good_set G hi hj hg hij hx, hg, fun H3 tb bs s3 R3 => ?_⟩
      refine ⟨_, _, takenRows b g, takenRows (b.set i j g x) g, b.n, rfl, st_Rows (Cl := Cl) _ _ _ _ (Keep.of (s2.trans s3)) R1.rows, R3.rows, rows_shape _ _, rows_shape _ _, G.n6, fun v' H4 s4 hv hl => ?_⟩
      obtain ⟨a, rfl, na, ha⟩ := hv
      have ha2 := ha
      rw [map_nv_int] at ha2
      refine ⟨_, rfl, a, _, rfl, .inl (SqL.of ha), _, rfl, a, _, rfl, SqL.of ha2, (by show 2 ≤ sizeLine; decide), fun p hp => k _ _ ((((s1.trans s2).trans s3).trans s4).trans (same_new hp)) ⟨p, rfl, ?_⟩⟩
      rw [upd_same]
      have e2 : ans b (.would i j g x) = [((gapsTo b.n (get2 (takenRows b g)) (get2 (takenRows (b.set i j g x) g)) b.n).length : Int), ((Km482.sum (gapsTo b.n (get2 (takenRows b g)) (get2 (takenRows (b.set i j g x) g)) b.n) : Nat) : Int)] := by
        unfold ans
        simp only [act]
        rw [if_neg h1, if_neg h2, would_eq G hi hj hg]; rfl
      rw [e2, sum_cast, List.length_map]; rfl
abbrev s_is_kept : Stmt := top 32
theorem sc_is_kept : FnScope ["pact", "pairs", "rows", "pair", "duty", "bound"] ["pact"] (defScope s_is_kept) := ⟨rfl, rfl, rfl, by decide +kernel, rfl, by decide +kernel, by decide +kernel⟩
def keptB (b : Book) : Bool := b.goods.all fun g => b.kept g fun i j => b.duty i j g
def sp_is_kept (Cp : Addr) : Sp := fun vs H Q _ => ∃ v b, vs = [v] ∧ isPact Cp H v b ∧ Good b ∧ ∀ H', Same H H' → Q (.bl (keptB b)) H'
theorem ok_is_kept {f : Addr} {fd : FuncData} (F : Fun K "is_kept" "is_kept" s_is_kept f fd) (T : Txt K mg Cp Cl) (C_bounds_of_all : Callee P w K mg base "bounds_of_all" 4 ["pact"] (sp_bounds_of_all Cp)) : FnOk P w K mg base CX0 5 f fd ["pact"] (sp_is_kept Cp) := by
  refine F.ok sc_is_kept (fun vs H Q E h => ?_) (fun cdv A outer s H vs Q E hr h => ?_)
  · obtain ⟨v, b, rfl, _⟩ := h
    rfl
  · obtain ⟨v, b, rfl, hP, G, k⟩ := h
    refine ⟨_, (pss_cons (ps_set (i := 1) sc_is_kept.nd rfl (Or.inl rfl) (pe_callC C_bounds_of_all hr rfl (pa_cons (pv 0) pa_nil)))
      (pss_cons (ps_for PassesOwn.never rfl (pi_list (pe_fld (pv 0) rfl)) (pg_name (i := 2) sc_is_kept.nd rfl (Or.inl rfl))
      (pss_one (ps_for PassesOwn.never rfl (pi_list (pv 1)) (pg_name (i := 3) sc_is_kept.nd rfl (Or.inl rfl))
      (pss_cons (ps_set (i := 4) sc_is_kept.nd rfl (Or.inl rfl) (pe_ix ix_tup (pv 3) pe_int (fun _ _ => rfl)))
      (pss_cons (ps_set (i := 5) sc_is_kept.nd rfl (Or.inl rfl) (pe_ix ix_tup (pv 3) pe_int (fun _ _ => rfl)))
      (pss_one (ps_if (pt_cmpR op_gt (pe_ix ix_list (pe_ix ix_list (pv 2) (pe_ix ix_tup (pv 4) pe_int (fun _ _ => rfl)) (fun _ _ => rfl)) (pe_ix ix_tup (pv 4) pe_int (fun _ _ => rfl)) (fun _ _ => rfl)) (pe_ix ix_list (pe_ix ix_list (pv 2) (pe_ix ix_tup (pv 5) pe_int (fun _ _ => rfl)) (fun _ _ => rfl)) (pe_ix ix_tup (pv 5) pe_int (fun _ _ => rfl)) (fun _ _ => rfl)) (nomark _)) (pss_one (ps_ret pe_bl)) pss_nil)))))))
      (pss_one (ps_ret pe_bl)))), ?_⟩
    have hP0 := hP
    obtain ⟨a, dx, fs, vl, vc, vu, rfl, ha, f1, f2, f3, f4, f5, ⟨ll, lvs, rfl, hll, hlp⟩, r2, r3⟩ := hP0
    have hlen := pd_len hlp
    have hlen3 : (laid3 b).length = b.m := by unfold laid3; rw [List.length_map, List.length_range]
    refine ⟨_, rfl, _, b, rfl, hP, G, good_ulen G, fun vp H1 s1 hvp => ?_⟩
    obtain ⟨p, pvs, rfl, np, hp, hpp⟩ := hvp
    have hplen := pd_len hpp
    refine ⟨_, rfl, a, Cp, dx, _, _, rfl, s1 _ _ ha, T.cl_Pact, T.a_laid, f3, ll, rfl, ⟨_, SqL.of (s1 _ _ hll)⟩, for_list (K := K) (a := ll) (xs := lvs) (fun g σ H' => ∃ o2 o3 o4 o5, σ = [some (.ref a), some (.ref p), o2, o3, o4, o5] ∧ H1 = H' ∧ ∀ g', g' < g → ∀ q ∈ boundsAll b, b.duty q.1.1 q.1.2 g' ≤ b.duty q.2.1 q.2.2 g') ?_ ?_ ?_ ?_⟩
    · exact ⟨none, none, none, none, rfl, rfl, fun g' h => by omega⟩
    · rintro g σ H' _ ⟨_, _, _, _, _, rfl, _⟩
      exact SqL.of (s1 _ _ hll)
    · rintro g x σ H' hx ⟨o2, o3, o4, o5, rfl, rfl, hk⟩
      obtain ⟨rows, hrows, hxr⟩ := pd_get hlp hx
      have hg : g < b.m := by have := (List.getElem?_eq_some_iff.mp hrows).1; omega
      have er : rows = laidRows b g := by
        unfold laid3 at hrows
        rw [List.getElem?_map, range_get hg] at hrows
        exact (Option.some.inj hrows).symm
      subst er
      have hxr := st_Rows (Cl := Cl) _ _ _ _ (Keep.of s1) hxr
      have sh : Shape b.n (laidRows b g) := rows_shape _ _
      refine ⟨_, rfl, p, rfl, ⟨_, SqL.of hp⟩, for_list (K := K) (a := p) (xs := pvs) (fun i σ H' => ∃ o3 o4 o5, σ = [some (.ref a), some (.ref p), some x, o3, o4, o5] ∧ H1 = H' ∧ ∀ q ∈ (boundsAll b).take i, b.duty q.1.1 q.1.2 g ≤ b.duty q.2.1 q.2.2 g) ?_ ?_ ?_ ?_⟩
      · exact ⟨o3, o4, o5, rfl, rfl, fun q hq => by simp at hq⟩
      · rintro i σ H' _ ⟨_, _, _, _, rfl, _⟩
        exact SqL.of hp
      · rintro i y σ H' hy ⟨o3', o4', o5', rfl, rfl, hk2⟩
        obtain ⟨q, hq, tq, q1, q2, rfl, htq, ⟨t1, rfl, ht1⟩, ⟨t2, rfl, ht2⟩⟩ := pd_get hpp hy
        obtain ⟨ok1, ok2, ok3, ok4⟩ := pr_ok G q (List.mem_of_getElem? hq)
        obtain ⟨c0, cvs, c2, cr, rfl, c3, c4, c5, c6, _⟩ := rows_at hxr sh ok1 ok2
        obtain ⟨d0, dvs, d2, dr, zd, d3, d4, d5, d6, _⟩ := rows_at hxr sh ok3 ok4
        cases zd
        refine ⟨_, rfl, tq, _, _, _, rfl, rfl, SqT.of htq, atI_nat (j := 0) rfl, ?_⟩
        refine ⟨_, rfl, tq, _, _, _, rfl, rfl, SqT.of htq, atI_nat (j := 1) rfl, ?_⟩
        refine ⟨_, rfl, _, rfl, t1, _, _, _, rfl, rfl, SqT.of ht1, atI_nat (j := 0) rfl, c0, _, _, _, rfl, rfl, SqL.of c3, atI_nat c4, _, rfl, t1, _, _, _, rfl, rfl, SqT.of ht1, atI_nat (j := 1) rfl, c2, _, _, _, rfl, rfl, SqL.of c5, atI_nat c6, ?_⟩
        refine ⟨_, rfl, _, rfl, t2, _, _, _, rfl, rfl, SqT.of ht2, atI_nat (j := 0) rfl, c0, _, _, _, rfl, rfl, SqL.of d3, atI_nat d4, _, rfl, t2, _, _, _, rfl, rfl, SqT.of ht2, atI_nat (j := 1) rfl, d2, _, _, _, rfl, rfl, SqL.of d5, atI_nat d6, _, _, rfl, rfl, _, rfl, ite2 (fun e => ?_) (fun e => ?_)⟩
        · have e := of_decide_eq_true e
          rw [get_laid ok1 ok2, get_laid ok3 ok4] at e
          have kb : keptB b = false := by
            cases z : keptB b with
            | false => rfl
            | true =>
              have := (kept_iff G).mp z g hg q (List.mem_of_getElem? hq)
              omega
          show Q (.bl false) _
          rw [← kb]; exact k _ s1
        · refine ⟨_, _, _, rfl, rfl, fun r hr' => ?_⟩
          rw [take_snoc hq] at hr'
          rcases List.mem_append.mp hr' with z | z
          · exact hk2 r z
          · rw [List.mem_singleton.mp z]
            have e : ¬ ((get2 (laidRows b g) q.1.1 q.1.2 : Nat) : Int) > ((get2 (laidRows b g) q.2.1 q.2.2 : Nat) : Int) := fun z => e (decide_eq_true z)
            rw [get_laid ok1 ok2, get_laid ok3 ok4] at e
            omega
      · rintro σ H' ⟨o3', o4', o5', rfl, rfl, hk2⟩
        rw [hplen, List.take_length] at hk2
        refine ⟨_, _, _, _, rfl, rfl, fun g' hg' q hq => ?_⟩
        by_cases z : g' = g
        · subst z; exact hk2 q hq
        · exact hk g' (by omega) q hq
    · rintro σ H' ⟨o2, o3, o4, o5, rfl, rfl, hk⟩
      rw [hlen, hlen3] at hk
      have kb : keptB b = true := (kept_iff G).mpr hk
      show Q (.bl true) _
      rw [← kb]; exact k _ s1
abbrev s_mf_kept : Stmt := top 79
theorem sc_mf_kept : FnScope ["pact"] ["pact"] (defScope s_mf_kept) := ⟨rfl, rfl, rfl, by decide +kernel, rfl, by decide +kernel, by decide +kernel⟩
def sp_mf_kept (Cp : Addr) : Sp := fun vs H Q _ => ∃ v b, vs = [v] ∧ isPact Cp H v b ∧ Good b ∧ ∀ v' H', Same H H' → isAns H' v' (ans b .kept) → Q v' H'
theorem ok_mf_kept {f : Addr} {fd : FuncData} (F : Fun K "mf_kept" "mf_kept" s_mf_kept f fd) (T : Txt K mg Cp Cl) (C_is_kept : Callee P w K mg base "is_kept" 5 ["pact"] (sp_is_kept Cp)) : FnOk P w K mg base CX0 6 f fd ["pact"] (sp_mf_kept Cp) := by
  refine F.ok sc_mf_kept (fun vs H Q E h => ?_) (fun cdv A outer s H vs Q E hr h => ?_)
  · obtain ⟨v, b, rfl, _⟩ := h
    rfl
  · obtain ⟨v, b, rfl, hP, G, k⟩ := h
    refine ⟨_, (pss_one (ps_ret (pe_lst (pa_cons (pe_ifExp (pt_val (pe_callC C_is_kept hr rfl (pa_cons (pv 0) pa_nil))) pe_int pe_int) pa_nil)))), ?_⟩
    have ek : ans b .kept = [if keptB b = true then 1 else 0] := rfl
    refine ⟨_, rfl, _, b, rfl, hP, G, fun H1 s1 => ⟨_, rfl, ite2 (fun e => ?_) (fun e => ?_)⟩⟩
    · refine ⟨(by show 1 ≤ sizeLine; decide), fun p hp => k _ _ (s1.trans (same_new hp)) ?_⟩
      rw [ek, if_pos e]; exact ans_one hp
    · refine ⟨(by show 1 ≤ sizeLine; decide), fun p hp => k _ _ (s1.trans (same_new hp)) ?_⟩
      rw [ek, if_neg e]; exact ans_one hp
end
end Mf

namespace Mf
open PySem PySem.Spec PyProof.Rows L2 Km482
/-! ### one left out -/
theorem cut_to (xs : List V) (i : Nat) (h : i ≤ xs.length) : cutV xs none (some (i : Int)) = xs.take i := by
  unfold cutV
  rw [HT.sIx_none, HT.sIx_nat, List.drop_zero, Nat.min_eq_left h]; rfl
theorem cut_from (xs : List V) (i : Nat) (h : i ≤ xs.length) : cutV xs (some (i : Int)) none = xs.drop i := by
  unfold cutV
  rw [HT.sIx_none, HT.sIx_nat, Nat.min_eq_left h]
  exact List.take_of_length_le (by rw [List.length_drop]; exact Nat.le_refl _)
theorem range_split {n i : Nat} (h : i < n) : (List.range n).filter (fun j => j != i) = (List.range n).take i ++ (List.range n).drop (i + 1) := by
  have e : List.range n = (List.range n).take i ++ i :: (List.range n).drop (i + 1) := by
    have := (List.take_append_drop i (List.range n)).symm
    rw [List.drop_eq_getElem_cons (by rw [List.length_range]; exact h), List.getElem_range] at this
    exact this
  conv => lhs; rw [e]
  rw [List.filter_append, List.filter_cons_of_neg (by simp)]
  congr 1
  · refine List.filter_eq_self.mpr fun x hx => ?_
    obtain ⟨k, hk⟩ := List.getElem?_of_mem hx
    have lk := (List.getElem?_eq_some_iff.mp hk).1
    rw [List.length_take, List.length_range] at lk
    rw [List.getElem?_take_of_lt (by omega), range_get (by omega)] at hk
    have := Option.some.inj hk
    simp; omega
  · refine List.filter_eq_self.mpr fun x hx => ?_
    obtain ⟨k, hk⟩ := List.getElem?_of_mem hx
    have lk := (List.getElem?_eq_some_iff.mp hk).1
    rw [List.length_drop, List.length_range] at lk
    rw [List.getElem?_drop, range_get (by omega)] at hk
    have := Option.some.inj hk
    simp; omega
def othersOf (b : Book) (i g : Nat) : List Nat := (b.states.filter (· != i)).map fun j => b.takes i j g
theorem others_eq {b : Book} {i g : Nat} (h : i < b.n) : othersOf b i g = ((List.range b.n).map fun j => tk b i j g).take i ++ ((List.range b.n).map fun j => tk b i j g).drop (i + 1) := by
  unfold othersOf Book.states
  rw [← List.map_take, ← List.map_drop, ← List.map_append, ← range_split h]
  refine List.map_congr_left fun j hj => ?_
  have := (List.mem_filter.mp hj).2
  exact (tk_pair (fun z => by rw [z] at this; simp at this)).symm
theorem alike_eq {l : List Nat} (hl : 0 < l.length) {m M : Int} (hm : m ∈ l.map fun (x : Nat) => (x : Int)) (hm2 : ∀ y ∈ l.map (fun (x : Nat) => (x : Int)), m ≤ y) (hM : M ∈ l.map fun (x : Nat) => (x : Int)) (hM2 : ∀ y ∈ l.map (fun (x : Nat) => (x : Int)), y ≤ M) :
    (l.all fun x => x == l.headD 0) = decide (V.int m = V.int M) := by
  rw [Bool.eq_iff_iff, List.all_eq_true, decide_eq_true_iff]
  have cast : ∀ x ∈ l, m ≤ (x : Int) ∧ (x : Int) ≤ M := fun x hx => ⟨hm2 _ (List.mem_map.mpr ⟨x, hx, rfl⟩), hM2 _ (List.mem_map.mpr ⟨x, hx, rfl⟩)⟩
  have hh : l.headD 0 ∈ l := by
    cases l with
    | nil => simp at hl
    | cons x l => simp
  constructor
  · intro h
    obtain ⟨x, hx, ex⟩ := List.mem_map.mp hm
    obtain ⟨y, hy, ey⟩ := List.mem_map.mp hM
    have h1 := h x hx
    have h2 := h y hy
    rw [beq_iff_eq] at h1 h2
    rw [← ex, ← ey, h1, h2]
  · intro h x hx
    injection h with h
    have h1 := cast x hx
    have h2 := cast _ hh
    rw [beq_iff_eq]; omega
/-- a table that does not stand on D -/
def rowsOff (D : Addr) (H : Hp) (v : V) (T : List (List Nat)) : Prop := ∃ a as, v = .ref a ∧ a ≠ D ∧ D ∉ as ∧ H a = some (.lst (as.map V.ref)) ∧ Paired (fun c r => H c = some (.lst (List.map nv r))) as T
theorem rowsOff.keep {D : Addr} {H H' : Hp} {v : V} {T : List (List Nat)} (k : LstKeep D H H') (h : rowsOff D H v T) : rowsOff D H' v T := by
  obtain ⟨a, as, rfl, h1, h2, h3, h4⟩ := h
  refine ⟨a, as, rfl, h1, h2, k _ _ h3 h1, pd_of (pd_len h4) fun i c r hc hr => ?_⟩
  obtain ⟨r', z1, z2⟩ := pd_get h4 hc
  rw [hr] at z1; cases z1
  exact k _ _ z2 (fun z => h2 (z ▸ List.mem_of_getElem? hc))
theorem rowsOff.rows {D : Addr} {H : Hp} {v : V} {T : List (List Nat)} (h : rowsOff D H v T) : isRows H v T := by
  obtain ⟨a, as, rfl, h1, h2, h3, h4⟩ := h
  refine ⟨a, _, rfl, h3, pd_of (by rw [List.length_map]; exact pd_len h4) fun i x r hx hr => ?_⟩
  obtain ⟨c, hc, e⟩ := pd_get' h4 hr
  rw [List.getElem?_map, hc] at hx; cases hx
  exact ⟨c, rfl, e⟩
theorem settled_laid {b : Book} (G : Good b) : laid3 b.settled = (List.range b.m).map (takenRows b) := by
  unfold laid3
  rw [settled_eq]
  show (List.range b.m).map _ = _
  refine List.map_congr_left fun g hg => ?_
  have hg := List.mem_range.mp hg
  unfold laidRows takenRows
  show (List.range b.n).map _ = _
  refine List.map_congr_left fun i hi => List.map_congr_left fun j hj => ?_
  exact duty_of_table (f := tk b) (cs := b.clauses) (us := b.unions) (List.mem_range.mp hi) (List.mem_range.mp hj) hg
section
variable {P : Program} {w : World} {K : PySem.W.Frag} {mg : Str → Option Value} {base : Heap} {Cp Cl : Addr}
abbrev s_taken_of_all : Stmt := top 35
theorem sc_taken_of_all : FnScope ["pact", "g"] ["pact"] (defScope s_taken_of_all) := ⟨rfl, rfl, rfl, by decide +kernel, rfl, by decide +kernel, by decide +kernel⟩
def sp_taken_of_all (Cp : Addr) : Sp := fun vs H Q _ => ∃ v b, vs = [v] ∧ isPact Cp H v b ∧ Good b ∧ ∀ v' H', Same H H' → LstOf isRows H' v' ((List.range b.m).map (takenRows b)) → Q v' H'
theorem ok_taken_of_all {f : Addr} {fd : FuncData} (F : Fun K "taken_of_all" "taken_of_all" s_taken_of_all f fd) (T : Txt K mg Cp Cl) (C_taken_of : Callee P w K mg base "taken_of" 5 ["pact", "g"] (sp_taken_of Cp)) : FnOk P w K mg base CX0 6 f fd ["pact"] (sp_taken_of_all Cp) := by
  refine F.ok sc_taken_of_all (fun vs H Q E h => ?_) (fun cdv A outer s H vs Q E hr h => ?_)
  · obtain ⟨v, b, rfl, _⟩ := h
    rfl
  · obtain ⟨v, b, rfl, hP, G, k⟩ := h
    refine ⟨_, (pss_one (ps_ret (pe_lc rfl sc_taken_of_all.nd (pi_range1 rfl T.b_range (pa_cons (pe_fld (pv 0) rfl) pa_nil)) (blkOk_by (own := [("g", 1)]) (by show blkC ["pact", "g"] (defScope s_taken_of_all) _ _ = true; decide +kernel)) (fun _ _ _ _ _ => (pg_name (i := 1) sc_taken_of_all.nd rfl (Or.inl rfl))) (fun _ _ _ _ _ => pts_nil) (fun _ _ _ _ _ => (pe_callC C_taken_of hr rfl (pa_cons (pv 0) (pa_cons (pv 1) pa_nil))))))), ?_⟩
    have hP0 := hP
    obtain ⟨a, dx, fs, vl, vc, vu, rfl, ha, f1, f2, f3, f4, f5, r1, r2, r3⟩ := hP0
    have m3 := G.m3
    refine ⟨_, rfl, a, Cp, dx, _, _, rfl, ha, T.cl_Pact, T.a_goods, f2, (b.m : Int), rfl, by omega, by omega, fun D hD => lc_range (fun g H' => ∃ vs', Same H H' ∧ H' D = some (.lst vs') ∧ Paired (rowsOff D H') vs' ((List.range g).map (takenRows b)) ∧ vs'.length = g) ?_ ?_ ?_⟩
    · exact ⟨[], same_new hD, upd_same, .nil, rfl⟩
    · rintro g H' hg ⟨vs', s1, hD', pd, hl⟩
      have eg : (0 + (g : Int)) = (g : Int) := by omega
      rw [eg]
      have hg : g < b.m := by omega
      refine ⟨rfl, _, rfl, _, rfl, _, b, g, rfl, st_Pact T.ne _ _ _ _ (Keep.of s1) hP, G, hg, fun H2 ta as s2 R2 => ?_⟩
      have hD2 := s2 _ _ hD'
      have n1 : ta ≠ D := fun z => by have := R2.fa; rw [z, hD'] at this; cases this
      have n2 : D ∉ as := fun z => by have := R2.fr D z; rw [hD'] at this; cases this
      have lk : LstKeep D H2 (upd H2 D (.lst (vs' ++ [.ref ta]))) := fun b' o e nb => by rw [upd_ne nb]; exact e
      refine ⟨vs', hD2, by rw [hl, sizeLine_eq]; omega, vs' ++ [.ref ta], fun b' o e => ?_, upd_same, ?_, ?_⟩
      · rw [upd_ne (ne_of_none e hD)]; exact s2 _ _ (s1 _ _ e)
      · rw [List.range_succ, List.map_append]
        exact Paired.snoc (Paired.mono (fun v t h => rowsOff.keep lk (rowsOff.keep (fun b' o e _ => s2 _ _ e) h)) pd) (rowsOff.keep lk ⟨ta, as, rfl, n1, n2, R2.lst, R2.rw_⟩)
      · rw [List.length_append, List.length_singleton, hl]
    · rintro H' ⟨vs', s1, hD', pd, hl⟩
      rw [Int.toNat_natCast] at pd
      exact k _ _ s1 ⟨D, vs', rfl, hD', Paired.mono (fun v t h => rowsOff.rows h) pd⟩
abbrev s_without_clause : Stmt := top 12
theorem sc_without_clause : FnScope ["pact", "c"] ["pact", "c"] (defScope s_without_clause) := ⟨rfl, rfl, rfl, by decide +kernel, rfl, by decide +kernel, by decide +kernel⟩
def sp_without_clause (Cp : Addr) : Sp := fun vs H Q _ => ∃ v b c, vs = [v, nv c] ∧ isPact Cp H v b ∧ Good b ∧ c < b.clauses.length ∧ ∀ v' H', Same H H' → isPact Cp H' v' (b.without c) → Q v' H'
theorem pd_take {α β : Type} {F : α → β → Prop} {l : List α} {r : List β} (h : Paired F l r) (n : Nat) : Paired F (l.take n) (r.take n) := by
  refine pd_of (by rw [List.length_take, List.length_take, pd_len h]) fun i x y hx hy => ?_
  by_cases z : i < n
  · rw [List.getElem?_take_of_lt z] at hx hy
    obtain ⟨y', e, f⟩ := pd_get h hx
    rw [hy] at e; cases e; exact f
  · rw [List.getElem?_eq_none (by rw [List.length_take]; omega)] at hx; cases hx
theorem pd_drop {α β : Type} {F : α → β → Prop} {l : List α} {r : List β} (h : Paired F l r) (n : Nat) : Paired F (l.drop n) (r.drop n) := by
  refine pd_of (by rw [List.length_drop, List.length_drop, pd_len h]) fun i x y hx hy => ?_
  rw [List.getElem?_drop] at hx hy
  obtain ⟨y', e, f⟩ := pd_get h hx
  rw [hy] at e; cases e; exact f
theorem ok_without_clause {f : Addr} {fd : FuncData} (F : Fun K "without_clause" "without_clause" s_without_clause f fd) (T : Txt K mg Cp Cl) (C_with_clauses : Callee P w K mg base "with_clauses" 3 ["pact", "clauses"] (sp_with_clauses Cp)) : FnOk P w K mg base CX0 4 f fd ["pact", "c"] (sp_without_clause Cp) := by
  refine F.ok sc_without_clause (fun vs H Q E h => ?_) (fun cdv A outer s H vs Q E hr h => ?_)
  · obtain ⟨v, b, c, rfl, _⟩ := h
    rfl
  · obtain ⟨v, b, c, rfl, hP, G, hc, k⟩ := h
    refine ⟨_, (pss_one (ps_ret (pe_callC C_with_clauses hr rfl (pa_cons (pv 0) (pa_cons (pe_op op_cat (pe_slice sl_list (pe_fld (pv 0) rfl) po_none (po_some (pv 1))) (pe_slice sl_list (pe_fld (pv 0) rfl) (po_some (pe_op op_add (pv 1) pe_int)) po_none)) pa_nil))))), ?_⟩
    have hP0 := hP
    obtain ⟨a, dx, fs, vl, vc, vu, rfl, ha, f1, f2, f3, f4, f5, r1, ⟨lc, cvs, rfl, hlc, hcs⟩, r3⟩ := hP0
    have hlen := pd_len hcs
    have c16 := G.cl
    refine ⟨_, rfl, _, rfl, a, Cp, dx, _, _, rfl, ha, T.cl_Pact, T.a_clauses, f4, _, rfl, _, rfl, lc, cvs, rfl, SqL.of hlc, fun l1 n1 => ?_⟩
    have s1 := same_new (o := .lst (cutV cvs none (some (c : Int)))) n1
    refine ⟨_, rfl, a, Cp, dx, _, _, rfl, s1 _ _ ha, T.cl_Pact, T.a_clauses, f4, _, rfl, _, _, rfl, rfl, _, rfl, lc, cvs, rfl, SqL.of (s1 _ _ hlc), fun l2 n2 => ?_⟩
    have s2 := same_new (o := .lst (cutV cvs (some ((c : Int) + 1)) none)) n2
    rw [cut_to _ _ (by omega)]
    have e1 : ((c : Int) + 1) = ((c + 1 : Nat) : Int) := by omega
    rw [e1, cut_from _ _ (by omega)]
    rw [cut_to _ _ (by omega)] at s1 n2 s2
    rw [e1, cut_from _ _ (by omega)] at s2
    refine ⟨l1, l2, _, _, rfl, rfl, s2 _ _ upd_same, upd_same, ?_, fun l3 n3 => ?_⟩
    · rw [List.length_take, List.length_drop, sizeLine_eq]; omega
    have s3 := same_new (o := .lst (cvs.take c ++ cvs.drop (c + 1))) n3
    have s13 := (s1.trans s2).trans s3
    refine ⟨_, b, _, b.clauses.take c ++ b.clauses.drop (c + 1), rfl, st_Pact T.ne _ _ _ _ (Keep.of s13) hP, ⟨l3, _, rfl, upd_same, ?_⟩, fun v' H' s4 hp' => k _ _ (s13.trans s4) hp'⟩
    exact Paired.mono (fun v x h => st_Clause (Cl := Cl) _ _ _ _ (Keep.of s13) h) (pd_app (pd_take hcs c) (pd_drop hcs (c + 1)))
abbrev s_mf_alike : Stmt := top 80
theorem sc_mf_alike : FnScope ["pact", "i", "g", "refusal", "row", "from_others"] ["pact", "i", "g"] (defScope s_mf_alike) := ⟨rfl, rfl, rfl, by decide +kernel, rfl, by decide +kernel, by decide +kernel⟩
def sp_mf_alike (Cp : Addr) : Sp := fun vs H Q _ => ∃ v b i g, vs = [v, nv i, nv g] ∧ isPact Cp H v b ∧ Good b ∧ ∀ v' H', Same H H' → isAns H' v' (ans b (.alike i g)) → Q v' H'
theorem ok_mf_alike {f : Addr} {fd : FuncData} (F : Fun K "mf_alike" "mf_alike" s_mf_alike f fd) (T : Txt K mg Cp Cl) (C_refusal_of_row : Callee P w K mg base "refusal_of_row" 2 ["pact", "i", "g"] (sp_refusal_of_row Cp)) (C_taken_of : Callee P w K mg base "taken_of" 5 ["pact", "g"] (sp_taken_of Cp)) : FnOk P w K mg base CX0 6 f fd ["pact", "i", "g"] (sp_mf_alike Cp) := by
  refine F.ok sc_mf_alike (fun vs H Q E h => ?_) (fun cdv A outer s H vs Q E hr h => ?_)
  · obtain ⟨v, b, i, g, rfl, _⟩ := h
    rfl
  · obtain ⟨v, b, i, g, rfl, hP, G, k⟩ := h
    refine ⟨_, (pss_cons (ps_set (i := 3) sc_mf_alike.nd rfl (Or.inl rfl) (pe_callC C_refusal_of_row hr rfl (pa_cons (pv 0) (pa_cons (pv 1) (pa_cons (pv 2) pa_nil)))))
      (pss_cons (ps_if (pt_cmpR op_ne (pv 3) (pe_gi rfl T.g_NO_REFUSAL) (nomark _)) (pss_one (ps_ret (pe_lst (pa_cons (pv 3) pa_nil)))) pss_nil)
      (pss_cons (ps_set (i := 4) sc_mf_alike.nd rfl (Or.inl rfl) (pe_ix ix_list (pe_callC C_taken_of hr rfl (pa_cons (pv 0) (pa_cons (pv 2) pa_nil))) (pv 1) (fun _ _ => rfl)))
      (pss_cons (ps_set (i := 5) sc_mf_alike.nd rfl (Or.inl rfl) (pe_op op_cat (pe_slice sl_list (pv 4) po_none (po_some (pv 1))) (pe_slice sl_list (pv 4) (po_some (pe_op op_add (pv 1) pe_int)) po_none)))
      (pss_one (ps_ret (pe_lst (pa_cons (pe_ifExp (pt_cmpR op_eq (pe_callB (cr_min rfl) (by rfl) T.b_min (by rfl) (pa_cons (pv 5) pa_nil)) (pe_callB (cr_max rfl) (by rfl) T.b_max (by rfl) (pa_cons (pv 5) pa_nil)) (nomark _)) pe_int pe_int) pa_nil)))))))), ?_⟩
    refine ⟨_, rfl, _, rfl, _, rfl, _, b, i, g, rfl, hP, ?_⟩
    refine ⟨_, rfl, rfl, _, rfl, ?_⟩
    rcases refR_cases b i g with ⟨h1, e⟩ | ⟨h1, e, hi, hg⟩
    · rw [e]
      refine ⟨_, rfl, (by show 1 ≤ sizeLine; decide), fun p hp => k _ _ (same_new hp) ?_⟩
      have e2 : ans b (.alike i g) = [-2] := by unfold ans; simp only [act]; rw [if_pos h1]; rfl
      rw [e2]; exact ans_one hp
    rw [e]
    refine ⟨_, rfl, _, rfl, v, b, g, rfl, hP, G, hg, fun H1 a as s1 R => ?_⟩
    obtain ⟨c, r, a1, a2, a3, a4, a5, a6, a7⟩ := R.get (rows_shape b.n fun i j => tk b i j g) hi hi
    rw [taken_row hi] at a2
    have er : r = (List.range b.n).map fun j => tk b i j g := (Option.some.inj a2).symm
    have n6 := G.n6
    have n2' := G.n2
    have lr : (r.map nv).length = b.n := by rw [List.length_map, a4]
    refine ⟨_, rfl, a, _, _, _, rfl, rfl, SqL.of R.lst, atI_nat a6, ?_⟩
    refine ⟨_, rfl, _, rfl, _, rfl, c, _, rfl, SqL.of a5, fun l1 n1 => ?_⟩
    have s2 := same_new (o := .lst (cutV (r.map nv) none (some (i : Int)))) n1
    refine ⟨_, rfl, _, rfl, _, _, rfl, rfl, _, rfl, c, _, rfl, SqL.of (s2 _ _ a5), fun l2 n2 => ?_⟩
    have s3 := same_new (o := .lst (cutV (r.map nv) (some ((i : Int) + 1)) none)) n2
    have e1 : ((i : Int) + 1) = ((i + 1 : Nat) : Int) := by omega
    rw [cut_to _ _ (by omega), e1, cut_from _ _ (by omega)]
    rw [cut_to _ _ (by omega)] at s2 n2 s3
    rw [e1, cut_from _ _ (by omega)] at s3
    refine ⟨l1, l2, _, _, rfl, rfl, s3 _ _ upd_same, upd_same, ?_, fun l3 n3 => ?_⟩
    · rw [List.length_take, List.length_drop, lr, sizeLine_eq]; omega
    have eo : (r.map nv).take i ++ (r.map nv).drop (i + 1) = (othersOf b i g).map nv := by
      rw [others_eq hi, ← er, List.map_append, List.map_take, List.map_drop]
    rw [eo]
    have lo : (othersOf b i g).length = b.n - 1 := by
      rw [others_eq hi, ← er, List.length_append, List.length_take, List.length_drop, a4]; omega
    have s4 := same_new (o := .lst ((othersOf b i g).map nv)) n3
    have h3 : (upd (upd (upd H1 l1 (.lst ((r.map nv).take i))) l2 (.lst ((r.map nv).drop (i + 1)))) l3 (.lst ((othersOf b i g).map nv))) l3 = some (.lst (((othersOf b i g).map fun (x : Nat) => (x : Int)).map V.int)) := by
      rw [upd_same, map_nv_int]
    refine ⟨_, rfl, l3, _, rfl, SqL.of h3, by rw [List.length_map, lo]; omega, fun m hm hm2 => ?_⟩
    refine ⟨_, rfl, l3, _, rfl, SqL.of h3, by rw [List.length_map, lo]; omega, fun M hM hM2 => ?_⟩
    have ea := alike_eq (l := othersOf b i g) (by omega) hm hm2 hM hM2
    have ek : ans b (.alike i g) = [if ((othersOf b i g).all fun x => x == (othersOf b i g).headD 0) = true then 1 else 0] := by
      unfold ans
      simp only [act]
      rw [if_neg h1]; rfl
    refine ⟨rfl, _, rfl, ite2 (fun z => ?_) (fun z => ?_)⟩
    · refine ⟨(by show 1 ≤ sizeLine; decide), fun p hp => k _ _ ((((s1.trans s2).trans s3).trans s4).trans (same_new hp)) ?_⟩
      rw [ek, ea, if_pos z]; exact ans_one hp
    · refine ⟨(by show 1 ≤ sizeLine; decide), fun p hp => k _ _ ((((s1.trans s2).trans s3).trans s4).trans (same_new hp)) ?_⟩
      rw [ek, ea, if_neg z]; exact ans_one hp
end
end Mf

namespace Mf
open Km482
abbrev Pt := Nat × Nat
/-- what a duty is to be no more than, by its clauses in their order -/
def bnds (b : Book) (q : Pt) : List Pt := ((boundsAll b).filter fun p => decide (p.1 = q)).map (·.2)
theorem bnds_mem {b : Book} {q r : Pt} : r ∈ bnds b q ↔ r ∈ b.unders q.1 q.2 := by
  unfold bnds
  rw [List.mem_map]
  constructor
  · rintro ⟨p, hp, rfl⟩
    obtain ⟨h1, h2⟩ := List.mem_filter.mp hp
    have h2 := of_decide_eq_true h2
    have := boundsAll_mem.mp h1
    rw [h2] at this; exact this
  · intro h
    exact ⟨(q, r), List.mem_filter.mpr ⟨boundsAll_mem.mpr h, decide_eq_true rfl⟩, rfl⟩
theorem snoc_ind {α : Type} {P : List α → Prop} (h0 : P []) (h1 : ∀ l x, P l → P (l ++ [x])) (l : List α) : P l := by
  have : ∀ l : List α, P l.reverse := fun l => by
    induction l with
    | nil => exact h0
    | cons x l ih => rw [List.reverse_cons]; exact h1 _ _ ih
  have h := this l.reverse
  rwa [List.reverse_reverse] at h
/-- one more found, if it is new -/
def find1 (s : Nat) (st : List (Pt × Nat) × List Pt) (q : Pt) : List (Pt × Nat) × List Pt := if q ∈ st.1.map (·.1) then st else (st.1 ++ [(q, s)], st.2 ++ [q])
def findAll (s : Nat) (l : List Pt) (st : List (Pt × Nat) × List Pt) : List (Pt × Nat) × List Pt := l.foldl (find1 s) st
theorem findAll_snoc (s : Nat) (l : List Pt) (q : Pt) (st : List (Pt × Nat) × List Pt) : findAll s (l ++ [q]) st = find1 s (findAll s l st) q := by
  unfold findAll; rw [List.foldl_append]; rfl
structure Found (s : Nat) (es : List (Pt × Nat)) (bh l : List Pt) (st : List (Pt × Nat) × List Pt) : Prop where
  nd : (st.1.map (·.1)).Nodup
  ent : ∀ e, e ∈ st.1 ↔ e ∈ es ∨ (e.1 ∈ l ∧ e.1 ∉ es.map (·.1) ∧ e.2 = s)
  hb : ∀ q, q ∈ st.2 ↔ q ∈ bh ∨ (q ∈ l ∧ q ∉ es.map (·.1))
  len : st.1.length + bh.length = es.length + st.2.length
theorem found_keys {s : Nat} {es : List (Pt × Nat)} {bh l : List Pt} {st : List (Pt × Nat) × List Pt} (F : Found s es bh l st) (q : Pt) : q ∈ st.1.map (·.1) ↔ q ∈ es.map (·.1) ∨ q ∈ l := by
  rw [List.mem_map]
  constructor
  · rintro ⟨e, he, rfl⟩
    rcases (F.ent e).mp he with h | ⟨h, _⟩
    · exact .inl (List.mem_map.mpr ⟨e, h, rfl⟩)
    · exact .inr h
  · intro h
    by_cases z : q ∈ es.map (·.1)
    · obtain ⟨e, he, rfl⟩ := List.mem_map.mp z
      exact ⟨e, (F.ent e).mpr (.inl he), rfl⟩
    · exact ⟨(q, s), (F.ent _).mpr (.inr ⟨h.resolve_left z, z, rfl⟩), rfl⟩
theorem found_all {s : Nat} {es : List (Pt × Nat)} {bh : List Pt} (nd : (es.map (·.1)).Nodup) : ∀ l : List Pt, Found s es bh l (findAll s l (es, bh)) := by
  intro l
  refine snoc_ind (P := fun l => Found s es bh l (findAll s l (es, bh))) ?_ (fun l q ih => ?_) l
  · exact ⟨nd, fun e => ⟨.inl, fun h => h.elim id fun z => by simp at z⟩, fun q => ⟨.inl, fun h => h.elim id fun z => by simp at z⟩, rfl⟩
  · rw [findAll_snoc]
    unfold find1
    by_cases h : q ∈ (findAll s l (es, bh)).1.map (·.1)
    · rw [if_pos h]
      have h' := (found_keys ih q).mp h
      refine ⟨ih.nd, fun e => ?_, fun r => ?_, ih.len⟩
      · rw [ih.ent, List.mem_append, List.mem_singleton]
        constructor
        · rintro (z | ⟨z1, z2, z3⟩)
          · exact .inl z
          · exact .inr ⟨.inl z1, z2, z3⟩
        · rintro (z | ⟨z1 | z1, z2, z3⟩)
          · exact .inl z
          · exact .inr ⟨z1, z2, z3⟩
          · rw [z1] at z2
            exact .inr ⟨by rw [z1]; exact h'.resolve_left z2, by rw [z1]; exact z2, z3⟩
      · rw [ih.hb, List.mem_append, List.mem_singleton]
        constructor
        · rintro (z | ⟨z1, z2⟩)
          · exact .inl z
          · exact .inr ⟨.inl z1, z2⟩
        · rintro (z | ⟨z1 | z1, z2⟩)
          · exact .inl z
          · exact .inr ⟨z1, z2⟩
          · rw [z1] at z2
            exact .inr ⟨by rw [z1]; exact h'.resolve_left z2, by rw [z1]; exact z2⟩
    · rw [if_neg h]
      have h' : q ∉ es.map (·.1) ∧ q ∉ l := ⟨fun z => h ((found_keys ih q).mpr (.inl z)), fun z => h ((found_keys ih q).mpr (.inr z))⟩
      refine ⟨?_, fun e => ?_, fun r => ?_, ?_⟩
      · show ((findAll s l (es, bh)).1 ++ [(q, s)]).map (·.1) |>.Nodup
        rw [List.map_append]
        exact nodup_snoc ih.nd h
      · show e ∈ (findAll s l (es, bh)).1 ++ [(q, s)] ↔ _
        rw [List.mem_append, List.mem_singleton, ih.ent, List.mem_append, List.mem_singleton]
        constructor
        · rintro ((z | ⟨z1, z2, z3⟩) | z)
          · exact .inl z
          · exact .inr ⟨.inl z1, z2, z3⟩
          · rw [z]; exact .inr ⟨.inr rfl, h'.1, rfl⟩
        · rintro (z | ⟨z1 | z1, z2, z3⟩)
          · exact .inl (.inl z)
          · exact .inl (.inr ⟨z1, z2, z3⟩)
          · exact .inr (Prod.ext z1 z3)
      · show r ∈ (findAll s l (es, bh)).2 ++ [q] ↔ _
        rw [List.mem_append, List.mem_singleton, ih.hb, List.mem_append, List.mem_singleton]
        constructor
        · rintro ((z | ⟨z1, z2⟩) | z)
          · exact .inl z
          · exact .inr ⟨.inl z1, z2⟩
          · rw [z]; exact .inr ⟨.inr rfl, h'.1⟩
        · rintro (z | ⟨z1 | z1, z2⟩)
          · exact .inl (.inl z)
          · exact .inl (.inr ⟨z1, z2⟩)
          · exact .inr z1
      · show ((findAll s l (es, bh)).1 ++ [(q, s)]).length + bh.length = es.length + ((findAll s l (es, bh)).2 ++ [q]).length
        have := ih.len
        rw [List.length_append, List.length_append, List.length_singleton, List.length_singleton]; omega
/-- what has been found by so many steps -/
structure Bfs (b : Book) (p : Pt) (s : Nat) (es : List (Pt × Nat)) (near : List Pt) : Prop where
  nd : (es.map (·.1)).Nodup
  keys : ∀ q, q ∈ es.map (·.1) ↔ within b s p q
  val : ∀ e ∈ es, within b e.2 p e.1 ∧ ∀ k, k < e.2 → ¬ within b k p e.1
  near : ∀ q, q ∈ near ↔ within b s p q ∧ ∀ k, k < s → ¬ within b k p q
theorem bfs_start (b : Book) (p : Pt) : Bfs b p 0 [(p, 0)] [p] := by
  refine ⟨by simp, fun q => ?_, fun e he => ?_, fun q => ?_⟩
  · show q ∈ [p] ↔ p = q
    rw [List.mem_singleton]; exact ⟨Eq.symm, Eq.symm⟩
  · rw [List.mem_singleton.mp he]
    exact ⟨rfl, fun k hk => by simp at hk⟩
  · rw [List.mem_singleton]
    exact ⟨fun h => ⟨h.symm, fun k hk => by omega⟩, fun h => h.1.symm⟩
theorem within_min {b : Book} {p q : Pt} : ∀ {s : Nat}, within b s p q → ∃ k, k ≤ s ∧ within b k p q ∧ ∀ k', k' < k → ¬ within b k' p q := by
  intro s
  induction s with
  | zero => intro h; exact ⟨0, Nat.le_refl _, h, fun k hk => by omega⟩
  | succ s ih =>
    intro h
    by_cases z : within b s p q
    · obtain ⟨k, h1, h2⟩ := ih z
      exact ⟨k, by omega, h2⟩
    · exact ⟨s + 1, Nat.le_refl _, h, fun k hk y => z (y.mono s (by omega))⟩
theorem bfs_step {b : Book} {p : Pt} {s : Nat} {es : List (Pt × Nat)} {near : List Pt} (B : Bfs b p s es near) : Bfs b p (s + 1) (findAll (s + 1) (near.flatMap (bnds b)) (es, [])).1 (findAll (s + 1) (near.flatMap (bnds b)) (es, [])).2 := by
  have F := found_all (s := s + 1) (bh := []) B.nd (near.flatMap (bnds b))
  have lm : ∀ q, q ∈ near.flatMap (bnds b) ↔ ∃ r, r ∈ near ∧ q ∈ b.unders r.1 r.2 := fun q => by
    rw [List.mem_flatMap]
    exact ⟨fun ⟨r, h1, h2⟩ => ⟨r, h1, bnds_mem.mp h2⟩, fun ⟨r, h1, h2⟩ => ⟨r, h1, bnds_mem.mpr h2⟩⟩
  have up : ∀ q, within b (s + 1) p q ↔ within b s p q ∨ q ∈ near.flatMap (bnds b) := fun q => by
    rw [lm]
    constructor
    · rintro (h | ⟨r, h1, h2⟩)
      · exact .inl h
      · by_cases z : r ∈ near
        · exact .inr ⟨r, z, h2⟩
        · left
          obtain ⟨k, k1, k2, k3⟩ := within_min h1
          have : k ≠ s := fun e => z ((B.near r).mpr ⟨h1, fun k' hk' => k3 k' (by omega)⟩)
          exact within.mono (b := b) (k := k + 1) (.inr ⟨r, k2, h2⟩) s (by omega)
    · rintro (h | ⟨r, h1, h2⟩)
      · exact .inl h
      · exact .inr ⟨r, ((B.near r).mp h1).1, h2⟩
  refine ⟨F.nd, fun q => ?_, fun e he => ?_, fun q => ?_⟩
  · rw [found_keys F, B.keys, up]
  · rcases (F.ent e).mp he with h | ⟨h1, h2, h3⟩
    · exact B.val e h
    · rw [h3]
      refine ⟨(up _).mpr (.inr h1), fun k hk y => h2 ((B.keys _).mpr (y.mono s (by omega)))⟩
  · rw [F.hb, B.keys, up]
    constructor
    · rintro (z | ⟨z1, z2⟩)
      · simp at z
      · exact ⟨.inr z1, fun k hk y => z2 (y.mono s (by omega))⟩
    · rintro ⟨z1, z2⟩
      have : ¬ within b s p q := z2 s (by omega)
      exact .inr ⟨z1.resolve_left this, this⟩
/-- all that it hangs on, each with the fewest clauses -/
structure Hung (b : Book) (p : Pt) (es : List (Pt × Nat)) : Prop where
  nd : (es.map (·.1)).Nodup
  keys : ∀ q, q ∈ es.map (·.1) ↔ hangs b p q
  val : ∀ e ∈ es, within b e.2 p e.1 ∧ ∀ k, k < e.2 → ¬ within b k p e.1
theorem bfs_end {b : Book} {p : Pt} {s : Nat} {es : List (Pt × Nat)} (B : Bfs b p s es []) : Hung b p es := by
  refine ⟨B.nd, fun q => ?_, B.val⟩
  rw [B.keys]
  constructor
  · exact fun h => ⟨s, h⟩
  · rintro ⟨k, h⟩
    have early : ∀ r, within b s p r → ∃ k, k < s ∧ within b k p r := fun r h => by
      obtain ⟨k, k1, k2, k3⟩ := within_min h
      by_cases e : k = s
      · have := (B.near r).mpr ⟨h, fun k' hk' => k3 k' (by omega)⟩
        simp at this
      · exact ⟨k, by omega, k2⟩
    have go : ∀ (k : Nat) (q : Pt), within b k p q → within b s p q := by
      intro k
      induction k with
      | zero => intro q h; exact within.mono (b := b) (k := 0) h s (Nat.zero_le _)
      | succ k ih =>
        rintro q (h | ⟨r, h1, h2⟩)
        · exact ih q h
        · obtain ⟨k', e1, e2⟩ := early r (ih r h1)
          exact within.mono (b := b) (k := k' + 1) (.inr ⟨r, e2, h2⟩) s (by omega)
    exact go k q h
theorem hung_len {b : Book} (G : Good b) {p : Pt} (hp : pairB b.n p) {es : List (Pt × Nat)} (nd : (es.map (·.1)).Nodup) (h : ∀ q ∈ es.map (·.1), hangs b p q) : es.length ≤ 36 := by
  have := len_le (n := b.n) nd fun q hq => (hangs_pairB G hp (h q hq)).inB
  rw [List.length_map] at this
  have h6 := G.n6
  have : b.n * b.n ≤ 6 * 6 := Nat.mul_le_mul h6 h6
  omega
/-! ### why -/
theorem pairs_sorted (b : Book) : b.pairs.Pairwise fun p q => p.1 < q.1 ∨ (p.1 = q.1 ∧ p.2 < q.2) := by
  unfold Book.pairs Book.states
  rw [List.pairwise_flatMap]
  refine ⟨fun i _ => ?_, ?_⟩
  · rw [List.pairwise_map]
    refine List.Pairwise.imp (R := fun (a b : Nat) => a < b) (fun h => .inr ⟨rfl, h⟩) ?_
    exact List.Pairwise.filter _ List.pairwise_lt_range
  · refine List.Pairwise.imp (R := fun (a b : Nat) => a < b) (fun h x hx y hy => ?_) List.pairwise_lt_range
    obtain ⟨_, _, rfl⟩ := List.mem_map.mp hx
    obtain ⟨_, _, rfl⟩ := List.mem_map.mp hy
    exact .inl h
theorem why_min {b : Book} (G : Good b) {p : Pt} (hp : pairB b.n p) {g t : Nat} {es : List (Pt × Nat)} (U : Hung b p es) {e : Pt × Nat} (he : e ∈ es) (ht : b.duty e.1.1 e.1.2 g = t)
    (hmin : ∀ e' ∈ es, b.duty e'.1.1 e'.1.2 g = t → ¬ (e'.2 < e.2 ∨ (e'.2 = e.2 ∧ (e'.1.1 < e.1.1 ∨ (e'.1.1 = e.1.1 ∧ e'.1.2 < e.1.2))))) : Why b p t g e.2 e.1 := by
  have few : ∀ f', f' < e.2 → ∀ r, within b f' p r → b.duty r.1 r.2 g ≠ t := fun f' hf r hr z => by
    obtain ⟨e', he', rfl⟩ := List.mem_map.mp ((U.keys r).mpr ⟨f', hr⟩)
    refine hmin e' he' z (.inl ?_)
    have := (U.val e' he').2
    apply Nat.lt_of_le_of_lt ?_ hf
    exact Nat.le_of_not_lt fun y => this f' y hr
  refine ⟨⟨(U.val e he).1, ht⟩, few, ?_⟩
  have hm : e.1 ∈ b.pairs := pairs_mem.mpr (hangs_pairB G hp ((U.keys _).mp (List.mem_map.mpr ⟨e, he, rfl⟩)))
  obtain ⟨l1, l2, el⟩ := List.append_of_mem hm
  refine ⟨l1, l2, el, fun r hr ⟨z1, z2⟩ => ?_⟩
  have so := pairs_sorted b
  rw [el, List.pairwise_append] at so
  have lt := so.2.2 r hr e.1 (by simp)
  obtain ⟨e', he', er⟩ := List.mem_map.mp ((U.keys r).mpr ⟨e.2, z1⟩)
  subst er
  refine hmin e' he' z2 (.inr ⟨?_, lt⟩)
  have h1 : e'.2 ≤ e.2 := Nat.le_of_not_lt fun y => (U.val e' he').2 e.2 y z1
  have h2 : ¬ e'.2 < e.2 := fun y => few e'.2 y e'.1 (U.val e' he').1 z2
  omega
theorem takes_low {b : Book} (G : Good b) {i j g : Nat} (hp : pairB b.n (i, j)) {es : List (Pt × Nat)} (U : Hung b (i, j) es) {m : Nat} (h1 : ∃ e ∈ es, b.duty e.1.1 e.1.2 g = m) (h2 : ∀ e ∈ es, m ≤ b.duty e.1.1 e.1.2 g) : m = b.takes i j g := by
  obtain ⟨e, he, ee⟩ := h1
  obtain ⟨q, hq, eq⟩ := takes_at G hp g
  obtain ⟨e', he', er⟩ := List.mem_map.mp ((U.keys q).mpr hq)
  have a1 := h2 e' he'
  rw [er] at a1
  have a2 := takes_le G (g := g) hp ((U.keys e.1).mp (List.mem_map.mpr ⟨e, he, rfl⟩))
  omega
end Mf

namespace Mf
open PySem PySem.Spec PyProof.Rows L2 Km482
/-! ### dicts by duties -/
def key (q : Pt) : List Key := [.inl (q.1 : Int), .inl (q.2 : Int)]
theorem key_inj {p q : Pt} (h : key p = key q) : p = q := by
  unfold key at h
  simp only [List.cons.injEq, Sum.inl.injEq, and_true] at h
  exact Prod.ext (by omega) (by omega)
theorem pair_key {H : Hp} {v : V} {q : Pt} (h : isPair H v q) : ∃ a, v = .ref a ∧ H a = some (.tup ((key q).map kV)) := h
section
variable {β : Type}
def encE (f : β → V) (es : List (Pt × β)) : List (List Key × V) := es.map fun e => (key e.1, f e.2)
theorem enc_none {f : β → V} {q : Pt} : ∀ {es : List (Pt × β)}, q ∉ es.map (·.1) → valV (encE f es) (key q) = none
  | [], _ => rfl
  | e :: es, h => by
    have h1 : e.1 ≠ q := fun z => h (by simp [z])
    show valV ((key e.1, f e.2) :: encE f es) (key q) = none
    rw [valV_neg (fun z => h1 (key_inj z))]
    exact enc_none (fun z => h (by rw [List.map_cons]; exact List.mem_cons_of_mem _ z))
theorem enc_some {f : β → V} {q : Pt} {v : V} : ∀ {es : List (Pt × β)}, valV (encE f es) (key q) = some v → ∃ e ∈ es, e.1 = q ∧ v = f e.2
  | [], h => by cases h
  | e :: es, h => by
    have h : valV ((key e.1, f e.2) :: encE f es) (key q) = some v := h
    by_cases z : e.1 = q
    · rw [valV_pos (by rw [z])] at h
      exact ⟨e, by simp, z, (Option.some.inj h).symm⟩
    · rw [valV_neg (fun y => z (key_inj y))] at h
      obtain ⟨e', h1, h2⟩ := enc_some h
      exact ⟨e', List.mem_cons_of_mem _ h1, h2⟩
theorem enc_there {f : β → V} {q : Pt} {es : List (Pt × β)} (h : q ∈ es.map (·.1)) : ∃ v, valV (encE f es) (key q) = some v := by
  cases e : valV (encE f es) (key q) with
  | some v => exact ⟨v, rfl⟩
  | none =>
    exfalso
    have := valV_not e
    obtain ⟨x, hx, rfl⟩ := List.mem_map.mp h
    exact this (List.mem_map.mpr ⟨(key x.1, f x.2), List.mem_map.mpr ⟨x, hx, rfl⟩, rfl⟩)
theorem enc_put {f : β → V} {q : Pt} {es : List (Pt × β)} (x : β) (h : q ∉ es.map (·.1)) : putK (encE f es) (key q) (f x) = encE f (es ++ [(q, x)]) := by
  rw [putK_new _ (enc_none h)]
  unfold encE
  rw [List.map_append]; rfl
theorem nd_key {es : List (Pt × β)} (nd : (es.map (·.1)).Nodup) {e e' : Pt × β} (h : e ∈ es) (h' : e' ∈ es) (z : e.1 = e'.1) : e = e' := by
  induction es with
  | nil => simp at h
  | cons x es ih =>
    rw [List.map_cons, List.nodup_cons] at nd
    rcases List.mem_cons.mp h with h1 | h1 <;> rcases List.mem_cons.mp h' with h2 | h2
    · rw [h1, h2]
    · exact absurd (List.mem_map.mpr ⟨e', h2, by rw [← h1]; exact z.symm⟩) nd.1
    · exact absurd (List.mem_map.mpr ⟨e, h1, by rw [← h2]; exact z⟩) nd.1
    · exact ih nd.2 h1 h2
theorem nd_val {γ : Type} {es : List (β × γ)} (nd : (es.map (·.2)).Nodup) {e e' : β × γ} (h : e ∈ es) (h' : e' ∈ es) (z : e.2 = e'.2) : e = e' := by
  induction es with
  | nil => simp at h
  | cons x es ih =>
    rw [List.map_cons, List.nodup_cons] at nd
    rcases List.mem_cons.mp h with h1 | h1 <;> rcases List.mem_cons.mp h' with h2 | h2
    · rw [h1, h2]
    · exact absurd (List.mem_map.mpr ⟨e', h2, by rw [← h1]; exact z.symm⟩) nd.1
    · exact absurd (List.mem_map.mpr ⟨e, h1, by rw [← h2]; exact z⟩) nd.1
    · exact ih nd.2 h1 h2
end
/-- the bounds, by duties -/
def isBD (H : Hp) (v : V) (b : Book) : Prop := ∃ d kvs, v = .ref d ∧ H d = some (.dT kvs) ∧ ∀ q : Pt, (valV kvs (key q) = none ∧ bnds b q = []) ∨ ∃ l vs, valV kvs (key q) = some (.ref l) ∧ H l = some (.lst vs) ∧ Paired (isPair H) vs (bnds b q)
theorem isBD.keep {H H' : Hp} {v : V} {b : Book} (s : Same H H') (h : isBD H v b) : isBD H' v b := by
  obtain ⟨d, kvs, rfl, hd, h⟩ := h
  refine ⟨d, kvs, rfl, s _ _ hd, fun q => ?_⟩
  rcases h q with z | ⟨l, vs, h1, h2, h3⟩
  · exact .inl z
  · exact .inr ⟨l, vs, h1, s _ _ h2, Paired.mono (fun v x h => tk_Pair (TupKeep.of s) h) h3⟩
def bndsTo (b : Book) (i : Nat) (q : Pt) : List Pt := (((boundsAll b).take i).filter fun p => decide (p.1 = q)).map (·.2)
theorem bndsTo_succ {b : Book} {i : Nat} {p : Pr} (h : (boundsAll b)[i]? = some p) (q : Pt) : bndsTo b (i + 1) q = bndsTo b i q ++ (if p.1 = q then [p.2] else []) := by
  unfold bndsTo
  rw [take_snoc h, List.filter_append, List.map_append]
  congr 1
  by_cases e : p.1 = q
  · rw [List.filter_cons_of_pos (by simp [e]), if_pos e]; rfl
  · rw [List.filter_cons_of_neg (by simp [e]), if_neg e]; rfl
section
variable {P : Program} {w : World} {K : PySem.W.Frag} {mg : Str → Option Value} {base : Heap} {Cp Cl : Addr}
theorem bounds_len {b : Book} (G : Good b) : (boundsAll b).length ≤ 96 := by
  have : ∀ l : List Clause, (l.flatMap fun c => (boundsOf b c).map fun q => ((c.i, c.j), q)).length ≤ 6 * l.length := by
    intro l
    induction l with
    | nil => simp
    | cons c l ih =>
      rw [List.flatMap_cons, List.length_append, List.length_map, List.length_cons]
      have : (boundsOf b c).length ≤ 6 := under_len _ _ _ G.n6
      omega
  have h1 := this b.clauses
  have h2 := G.cl
  unfold boundsAll
  omega
abbrev s_bounds_by_duty : Stmt := top 62
theorem sc_bounds_by_duty : FnScope ["pact", "bounds", "pair"] ["pact"] (defScope s_bounds_by_duty) := ⟨rfl, rfl, rfl, by decide +kernel, rfl, by decide +kernel, by decide +kernel⟩
def sp_bounds_by_duty (Cp : Addr) : Sp := fun vs H Q _ => ∃ v b, vs = [v] ∧ isPact Cp H v b ∧ Good b ∧ ∀ v' H', Same H H' → isBD H' v' b → Q v' H'
theorem ok_bounds_by_duty {f : Addr} {fd : FuncData} (F : Fun K "bounds_by_duty" "bounds_by_duty" s_bounds_by_duty f fd) (T : Txt K mg Cp Cl) (C_bounds_of_all : Callee P w K mg base "bounds_of_all" 4 ["pact"] (sp_bounds_of_all Cp)) : FnOk P w K mg base CX0 5 f fd ["pact"] (sp_bounds_by_duty Cp) := by
  refine F.ok sc_bounds_by_duty (fun vs H Q E h => ?_) (fun cdv A outer s H vs Q E hr h => ?_)
  · obtain ⟨v, b, rfl, _⟩ := h
    rfl
  · obtain ⟨v, b, rfl, hP, G, k⟩ := h
    have hu1 := Nat.lt_of_le_of_lt (Nat.add_le_add_left (show 1 ≤ 64 by decide) _) (L2.hu64 hr)
    refine ⟨_, (pss_cons (ps_set (i := 1) sc_bounds_by_duty.nd rfl (Or.inl rfl) pe_dnewT)
      (pss_cons (ps_for PassesOwn.never rfl (pi_list (pe_callC C_bounds_of_all hr rfl (pa_cons (pv 0) pa_nil))) (pg_name (i := 2) sc_bounds_by_duty.nd rfl (Or.inl rfl))
      (pss_one (ps_expr (pe_bm PySem.F.plainAttrs_list PySem.F.slot_list_append PySem.F.type_list_append mt_append (pe_dsetdef hu1 (pv 1) (pe_ix ix_tup (pv 2) pe_int (fun _ _ => rfl)) (pe_lst pa_nil) ⟨rfl, rfl, rfl, rfl⟩) (pa_cons (pe_ix ix_tup (pv 2) pe_int (fun _ _ => rfl)) pa_nil)))))
      (pss_one (ps_ret (pv 1))))), ?_⟩
    intro D hD
    have s0 : Same H (upd H D (.dT [])) := same_new hD
    refine ⟨_, rfl, _, b, rfl, st_Pact T.ne _ _ _ _ (Keep.of s0) hP, G, good_ulen G, fun vp H1 s1 hvp => ?_⟩
    obtain ⟨p, pvs, rfl, np, hp, hpp⟩ := hvp
    have hplen := pd_len hpp
    have hD1 : H1 D = some (.dT []) := s1 _ _ upd_same
    have h96 := bounds_len G
    have pD : p ≠ D := ne_of hp hD1 (by intro z; cases z)
    refine ⟨p, rfl, ⟨_, SqL.of hp⟩, for_list (K := K) (a := p) (xs := pvs) (fun i σ H' => ∃ (o2 : Option V) (es : List (Pt × Addr)), σ = [some v, some (.ref D), o2] ∧ LstKeep D H1 H' ∧ H' D = some (.dT (encE V.ref es)) ∧ (es.map (·.1)).Nodup ∧ (es.map (·.2)).Nodup ∧ es.length ≤ i ∧
      (∀ e ∈ es, H1 e.2 = none ∧ ∃ vs, H' e.2 = some (.lst vs) ∧ Paired (isPair H') vs (bndsTo b i e.1) ∧ vs.length ≤ i) ∧ (∀ q, q ∉ es.map (·.1) → bndsTo b i q = [])) ?_ ?_ ?_ ?_⟩
    · exact ⟨none, [], rfl, fun b' o e _ => e, hD1, List.nodup_nil, List.nodup_nil, Nat.le_refl _, fun e he => by simp at he, fun q _ => rfl⟩
    · rintro i σ H' _ ⟨_, _, _, kb, _⟩
      exact SqL.of (kb _ _ hp pD)
    · rintro i y σ H' hy ⟨o2, es, rfl, kb, hD', nd1, nd2, hlen, hes, hno⟩
      obtain ⟨q, hq, tq, x1, x2, rfl, htq, hx1, hx2⟩ := pd_get hpp hy
      have hi : i < 96 := by have := (List.getElem?_eq_some_iff.mp hq).1; omega
      have tk1 : TupKeep H1 H' := fun b' xs e => kb _ _ e (ne_of e hD1 (by intro z; cases z))
      have htq' := tk1 _ _ htq
      have hx1' := tk_Pair tk1 hx1
      have hx2' := tk_Pair tk1 hx2
      obtain ⟨t1, rfl, ht1⟩ := pair_key hx1'
      refine ⟨_, rfl, D, rfl, .inr ⟨_, .inl hD'⟩, _, rfl, tq, _, _, _, rfl, rfl, SqT.of htq', atI_nat (j := 0) rfl, Nat.zero_le _, fun l nl => ?_⟩
      have s2 : Same H' (upd H' l (.lst [])) := same_new nl
      have lD : l ≠ D := fun z => by rw [z, hD'] at nl; cases nl
      have l1 : H1 l = none := by
        cases e : H1 l with
        | none => rfl
        | some o => have := kb _ _ e lD; rw [nl] at this; cases this
      refine ⟨_, key q.1, t1, s2 _ _ hD', rfl, s2 _ _ ht1, ?_, fun v' hv' => ?_, fun hn => ?_⟩
      · unfold encE
        rw [List.length_map, sizeLine_eq]; omega
      · -- the key is there
        obtain ⟨e, he, e1, rfl⟩ := enc_some hv'
        obtain ⟨fe, vs, hvs, pvs', lvs⟩ := hes e he
        have eD : e.2 ≠ D := fun z => by rw [z, hD1] at fe; cases fe
        have el : e.2 ≠ l := fun z => by rw [z, nl] at hvs; cases hvs
        refine ⟨.inl ⟨rfl, _, SqL.of (s2 _ _ hvs)⟩, _, rfl, tq, _, _, _, rfl, rfl, SqT.of (s2 _ _ htq'), atI_nat (j := 1) rfl, e.2, vs, _, rfl, rfl, s2 _ _ hvs, by rw [sizeLine_eq]; omega, ?_⟩
        have tk2 : TupKeep H' (upd (upd H' l (.lst [])) e.2 (.lst (vs ++ [x2]))) := (TupKeep.of s2).trans (TupKeep.lst (s2 _ _ hvs))
        refine ⟨_, es, rfl, fun b' o eb nb => ?_, ?_, nd1, nd2, by omega, fun e' he' => ?_, fun r hr => ?_⟩
        · rw [upd_ne (ne_of_none eb fe), upd_ne (ne_of_none eb l1)]; exact kb _ _ eb nb
        · rw [upd_ne eD.symm, upd_ne lD.symm]; exact hD'
        · obtain ⟨fe', vs', hvs', pvs'', lvs'⟩ := hes e' he'
          refine ⟨fe', ?_⟩
          by_cases z : e'.2 = e.2
          · have := nd_val nd2 he' he z
            subst this
            refine ⟨vs ++ [x2], upd_same, ?_, by rw [List.length_append, List.length_singleton]; omega⟩
            rw [bndsTo_succ hq, if_pos e1.symm]
            exact Paired.snoc (Paired.mono (fun v x h => tk_Pair tk2 h) pvs') (tk_Pair tk2 hx2')
          · have el' : e'.2 ≠ l := fun z => by rw [z, nl] at hvs'; cases hvs'
            refine ⟨vs', by rw [upd_ne z, upd_ne el']; exact hvs', ?_, by omega⟩
            have ne1 : ¬ q.1 = e'.1 := fun y => z (by rw [nd_key nd1 he' he (y.symm.trans e1.symm)])
            rw [bndsTo_succ hq, if_neg ne1, List.append_nil]
            exact Paired.mono (fun v x h => tk_Pair tk2 h) pvs''
        · have ne1 : ¬ q.1 = r := fun y => hr (List.mem_map.mpr ⟨e, he, e1.trans y⟩)
          rw [bndsTo_succ hq, if_neg ne1, List.append_nil]; exact hno r hr
      · -- a new key
        have nk : q.1 ∉ es.map (·.1) := fun z => by
          obtain ⟨v', hv'⟩ := enc_there (f := V.ref) z
          rw [hn] at hv'; cases hv'
        rw [enc_put l nk]
        have dT1 : TupKeep (upd H' l (.lst [])) (upd (upd H' l (.lst [])) D (.dT (encE V.ref (es ++ [(q.1, l)])))) := fun b' ys e => by
          rw [upd_ne (ne_of e (s2 _ _ hD') (by intro z; cases z))]; exact e
        have hl3 : (upd (upd H' l (.lst [])) D (.dT (encE V.ref (es ++ [(q.1, l)])))) l = some (.lst []) := by rw [upd_ne lD, upd_same]
        refine ⟨.inl ⟨rfl, _, SqL.of hl3⟩, _, rfl, tq, _, _, _, rfl, rfl, SqT.of (dT1 _ _ (s2 _ _ htq')), atI_nat (j := 1) rfl, l, [], _, rfl, rfl, hl3, by rw [sizeLine_eq, List.length_nil]; omega, ?_⟩
        have tk2 : TupKeep H' (upd (upd (upd H' l (.lst [])) D (.dT (encE V.ref (es ++ [(q.1, l)])))) l (.lst ([] ++ [x2]))) := ((TupKeep.of s2).trans dT1).trans (TupKeep.lst hl3)
        refine ⟨_, es ++ [(q.1, l)], rfl, fun b' o eb nb => ?_, ?_, ?_, ?_, by rw [List.length_append, List.length_singleton]; omega, fun e' he' => ?_, fun r hr => ?_⟩
        · rw [upd_ne (ne_of_none eb l1), upd_ne nb, upd_ne (ne_of_none eb l1)]; exact kb _ _ eb nb
        · rw [upd_ne lD.symm, upd_same]
        · rw [List.map_append]; exact nodup_snoc nd1 nk
        · rw [List.map_append]
          refine nodup_snoc nd2 fun z => ?_
          obtain ⟨e, he, ee⟩ := List.mem_map.mp z
          obtain ⟨_, vs, hvs, _⟩ := hes e he
          have ee : e.2 = l := ee
          rw [ee, nl] at hvs; cases hvs
        · rcases List.mem_append.mp he' with he' | he'
          · obtain ⟨fe', vs', hvs', pvs'', lvs'⟩ := hes e' he'
            have el' : e'.2 ≠ l := fun z => by rw [z, nl] at hvs'; cases hvs'
            have eD' : e'.2 ≠ D := fun z => by rw [z, hD1] at fe'; cases fe'
            refine ⟨fe', vs', by rw [upd_ne el', upd_ne eD', upd_ne el']; exact hvs', ?_, by omega⟩
            have ne1 : ¬ q.1 = e'.1 := fun y => nk (List.mem_map.mpr ⟨e', he', y.symm⟩)
            rw [bndsTo_succ hq, if_neg ne1, List.append_nil]
            exact Paired.mono (fun v x h => tk_Pair tk2 h) pvs''
          · rw [List.mem_singleton.mp he']
            refine ⟨l1, [] ++ [x2], upd_same, ?_, by simp⟩
            rw [bndsTo_succ hq, if_pos rfl, hno _ nk]
            exact .cons (tk_Pair tk2 hx2') .nil
        · rw [List.map_append, List.mem_append] at hr
          have ne1 : ¬ q.1 = r := fun y => hr (.inr (by simp [y]))
          rw [bndsTo_succ hq, if_neg ne1, List.append_nil]; exact hno r (fun z => hr (.inl z))
    · rintro σ H' ⟨o2, es, rfl, kb, hD', nd1, nd2, hlen, hes, hno⟩
      rw [hplen] at hes hno
      have eb : ∀ q, bndsTo b (boundsAll b).length q = bnds b q := fun q => by unfold bndsTo bnds; rw [List.take_length]
      refine ⟨_, rfl, k _ _ (fun b' o e => kb _ _ (s1 _ _ (s0 _ _ e)) (ne_of_none e hD)) ⟨D, _, rfl, hD', fun q => ?_⟩⟩
      by_cases z : q ∈ es.map (·.1)
      · obtain ⟨v', hv'⟩ := enc_there (f := V.ref) z
        obtain ⟨e, he, rfl, rfl⟩ := enc_some hv'
        obtain ⟨_, vs, h1, h2, _⟩ := hes e he
        rw [eb] at h2
        exact .inr ⟨e.2, vs, hv', h1, h2⟩
      · exact .inl ⟨enc_none z, by rw [← eb]; exact hno q z⟩
end
end Mf

namespace Mf
open PySem PySem.Spec PyProof.Rows L2 Km482
/-- a new dict: all that p hangs on, with the fewest clauses -/
def NewHung (H H' : Hp) (v : V) (b : Book) (p : Pt) : Prop := ∃ d es, v = .ref d ∧ H d = none ∧ H' d = some (.dT (encE nv es)) ∧ Hung b p es
section
variable {P : Program} {w : World} {K : PySem.W.Frag} {mg : Str → Option Value} {base : Heap} {Cp Cl : Addr}
abbrev s_hangs_by : Stmt := top 63
theorem sc_hangs_by : FnScope ["bounds", "duty", "found", "nearest", "steps", "behind", "near", "bound"] ["bounds", "duty"] (defScope s_hangs_by) := ⟨rfl, rfl, rfl, by decide +kernel, rfl, by decide +kernel, by decide +kernel⟩
def sp_hangs_by : Sp := fun vs H Q _ => ∃ v u b p, vs = [v, u] ∧ isBD H v b ∧ isPair H u p ∧ Good b ∧ pairB b.n p ∧ ∀ v' H', Same H H' → NewHung H H' v' b p → Q v' H'
theorem ok_hangs_by {f : Addr} {fd : FuncData} (F : Fun K "hangs_by" "hangs_by" s_hangs_by f fd) (T : Txt K mg Cp Cl) : FnOk P w K mg base CX0 1 f fd ["bounds", "duty"] sp_hangs_by := by
  refine F.ok sc_hangs_by (fun vs H Q E h => ?_) (fun cdv A outer s H vs Q E hr h => ?_)
  · obtain ⟨v, u, b, p, rfl, _⟩ := h
    rfl
  · obtain ⟨v, u, b, p, rfl, hB, hu, G, hpB, k⟩ := h
    have hu1 := Nat.lt_of_le_of_lt (Nat.add_le_add_left (show 1 ≤ 64 by decide) _) (L2.hu64 hr)
    have hu0 := Nat.lt_of_le_of_lt (Nat.le_add_right _ 1) hu1
    refine ⟨_, (pss_cons (ps_set (i := 2) sc_hangs_by.nd rfl (Or.inl rfl) (pe_disp1T hu0 (pv 1) pe_int))
      (pss_cons (ps_set (i := 3) sc_hangs_by.nd rfl (Or.inl rfl) (pe_lst (pa_cons (pv 1) pa_nil)))
      (pss_cons (ps_set (i := 4) sc_hangs_by.nd rfl (Or.inl rfl) pe_int)
      (pss_cons (ps_while PassesOwn.never (pt_cmpR op_gt (pe_callB call_len_seq (by rfl) T.b_len PySem.boot_len (pa_cons (pv 3) pa_nil)) pe_int (nomark _)) (pss_cons (ps_aug (i := 4) sc_hangs_by.nd rfl (Or.inl rfl) pe_int ip_add)
      (pss_cons (ps_set (i := 5) sc_hangs_by.nd rfl (Or.inl rfl) (pe_lst pa_nil))
      (pss_cons (ps_for PassesOwn.never rfl (pi_list (pv 3)) (pg_name (i := 6) sc_hangs_by.nd rfl (Or.inl rfl))
      (pss_one (ps_for PassesOwn.never rfl (pi_list (pe_dget2 hu1 (pv 0) (pv 6) (pe_lst pa_nil) ⟨rfl, rfl, rfl, rfl⟩)) (pg_name (i := 7) sc_hangs_by.nd rfl (Or.inl rfl))
      (pss_one (ps_if (pt_cmp (pc_dnotin hu1 (pv 7) (pv 2)) (by with_unfolding_all rfl)) (pss_cons (ps_dput hu1 (pv 2) (pv 7) (pv 4) rfl)
      (pss_one (ps_expr (pe_bm PySem.F.plainAttrs_list PySem.F.slot_list_append PySem.F.type_list_append mt_append (pv 5) (pa_cons (pv 7) pa_nil))))) pss_nil)))))
      (pss_one (ps_set (i := 3) sc_hangs_by.nd rfl (Or.inl rfl) (pv 5)))))))
      (pss_one (ps_ret (pv 2))))))), ?_⟩
    obtain ⟨tp, rfl, htp⟩ := pair_key hu
    intro D hD
    have s0 : Same H (upd H D (.dT [])) := same_new hD
    refine ⟨_, rfl, key p, tp, upd_same, rfl, s0 _ _ htp, ?_⟩
    rw [upd_upd]
    have e0 : ([(key p, V.int 0)] : List (List Key × V)) = encE nv [(p, 0)] := rfl
    rw [e0]
    have s1 : Same H (upd H D (.dT (encE nv [(p, 0)]))) := same_new hD
    refine ⟨_, rfl, (by show 1 ≤ sizeLine; decide), fun N hN => ?_⟩
    have nND : N ≠ D := fun z => by rw [z, upd_same] at hN; cases hN
    have s2 : Same H (upd (upd H D (.dT (encE nv [(p, 0)]))) N (.lst [.ref tp])) := s1.trans (same_new hN)
    -- while there are some that are nearest
    refine ⟨fun m σ H' => ∃ (o5 o6 o7 : Option V) (N : Addr) (nvs : List V) (near : List Pt) (st : Nat) (es : List (Pt × Nat)), σ = [some v, some (.ref tp), some (.ref D), some (.ref N), some (nv st), o5, o6, o7] ∧ Same H H' ∧ H' D = some (.dT (encE nv es)) ∧ H' N = some (.lst nvs) ∧
      Paired (isPair H') nvs near ∧ Bfs b p st es near ∧ m = (36 - es.length) + (if near.length = 0 then 0 else 1), ⟨_, none, none, none, N, [.ref tp], [p], 0, [(p, 0)], rfl, s2, by rw [upd_ne nND.symm, upd_same], upd_same, .cons ⟨tp, rfl, s2 _ _ htp⟩ .nil, bfs_start b p, rfl⟩, ?_⟩
    rintro m σ H' ⟨o5, o6, o7, N, nvs, near, st, es, rfl, s3, hD3, hN3, pd3, B, rfl⟩
    have hnl := pd_len pd3
    refine ⟨_, rfl, N, nvs, rfl, .inl (SqL.of hN3), _, _, rfl, rfl, _, rfl, ite2 (fun e => ?_) (fun e => ?_)⟩
    · have e : 0 < near.length := by have := of_decide_eq_true e; omega
      refine ⟨fun σ' H'' => ∃ (o5 o6 o7 : Option V) (N : Addr) (nvs : List V), σ' = [some v, some (.ref tp), some (.ref D), some (.ref N), some (nv (st + 1)), o5, o6, o7] ∧ Same H H'' ∧ H'' D = some (.dT (encE nv (findAll (st + 1) (near.flatMap (bnds b)) (es, [])).1)) ∧ H'' N = some (.lst nvs) ∧
        Paired (isPair H'') nvs (findAll (st + 1) (near.flatMap (bnds b)) (es, [])).2, ?_, ?_⟩
      · rintro σ' H'' ⟨o5, o6, o7, N, nvs, rfl, h1, h2, h3, h4⟩
        have B2 := bfs_step B
        have F := found_all (s := st + 1) (bh := []) B.nd (near.flatMap (bnds b))
        have l36 : (findAll (st + 1) (near.flatMap (bnds b)) (es, [])).1.length ≤ 36 := hung_len G hpB B2.nd fun q hq => ⟨_, (B2.keys q).mp hq⟩
        have fl := F.len
        rw [List.length_nil] at fl
        refine ⟨_, ?_, o5, o6, o7, N, nvs, _, st + 1, _, rfl, h1, h2, h3, h4, B2, rfl⟩
        have hm : (36 - es.length) + (if near.length = 0 then 0 else 1) = 36 - es.length + 1 := by rw [if_neg (by omega)]
        rw [hm]
        split <;> omega
      · refine ⟨_, rfl, _, _, rfl, rfl, ?_⟩
        refine ⟨Nat.zero_le _, fun M hM => ?_⟩
        have s4 : Same H' (upd H' M (.lst [])) := same_new hM
        have hMD : M ≠ D := fun z => by rw [z, hD3] at hM; cases hM
        have hMN : N ≠ M := fun z => by rw [z, hM] at hN3; cases hN3
        have hMH : H M = none := s3.free hM
        refine ⟨_, rfl, N, rfl, ⟨_, SqL.of (s4 _ _ hN3)⟩, for_list (K := K) (a := N) (xs := nvs) (fun i σ H2 => ∃ (o6 o7 : Option V) (bvs : List V), σ = [some v, some (.ref tp), some (.ref D), some (.ref N), some (nv (st + 1)), some (.ref M), o6, o7] ∧ Same H H2 ∧ H2 N = some (.lst nvs) ∧ Paired (isPair H2) nvs near ∧
          H2 D = some (.dT (encE nv (findAll (st + 1) ((near.take i).flatMap (bnds b)) (es, [])).1)) ∧ H2 M = some (.lst bvs) ∧ Paired (isPair H2) bvs (findAll (st + 1) ((near.take i).flatMap (bnds b)) (es, [])).2) ?_ ?_ ?_ ?_⟩
        · exact ⟨o6, o7, [], rfl, s3.trans s4, s4 _ _ hN3, Paired.mono (fun v x h => tk_Pair (TupKeep.of s4) h) pd3, s4 _ _ hD3, upd_same, .nil⟩
        · rintro i σ H2 _ ⟨_, _, _, _, _, hN, _⟩
          exact SqL.of hN
        · rintro i x σ H2 hx ⟨o6', o7', bvs, rfl, s5, hN5, pd5, hD5, hM5, pb5⟩
          obtain ⟨q, hq, hxq⟩ := pd_get pd5 hx
          obtain ⟨tq, rfl, htq⟩ := pair_key hxq
          have hB5 := isBD.keep s5 hB
          obtain ⟨d, kvs, rfl, hd5, hkv⟩ := hB5
          refine ⟨_, rfl, d, rfl, .inr ⟨_, .inl hd5⟩, _, rfl, Nat.zero_le _, fun l nl => ?_⟩
          have s6 : Same H2 (upd H2 l (.lst [])) := same_new nl
          refine ⟨_, DGet.t (s6 _ _ hd5) (s6 _ _ htq), ?_⟩
          -- the list that is gone through
          obtain ⟨L, lvs, eL, hL, pL, nLM⟩ : ∃ L lvs, (valV kvs (key q)).getD (.ref l) = .ref L ∧ (upd H2 l (.lst [])) L = some (.lst lvs) ∧ Paired (isPair (upd H2 l (.lst []))) lvs (bnds b q) ∧ L ≠ M := by
            rcases hkv q with ⟨z1, z2⟩ | ⟨L, lvs, z1, z2, z3⟩
            · refine ⟨l, [], by rw [z1]; rfl, upd_same, by rw [z2]; exact .nil, fun z => ?_⟩
              rw [z, hM5] at nl; cases nl
            · refine ⟨L, lvs, by rw [z1]; rfl, s6 _ _ z2, Paired.mono (fun v x h => tk_Pair (TupKeep.of s6) h) z3, fun z => ?_⟩
              -- what the bounds hold stood there ahead of M
              have hB0 := hB
              obtain ⟨d', kvs', ed, hd0, hkv0⟩ := hB0
              cases ed
              have := s5 _ _ hd0
              rw [hd5] at this
              cases this
              rcases hkv0 q with ⟨y1, _⟩ | ⟨L', lvs', y1, y2, _⟩
              · rw [y1] at z1; cases z1
              · rw [y1] at z1
                cases z1
                rw [z, hMH] at y2; cases y2
          rw [eL]
          have hLD : L ≠ D := ne_of hL (s6 _ _ hD5) (by intro z; cases z)
          have hpl := pd_len pL
          refine ⟨L, rfl, ⟨_, SqL.of hL⟩, for_list (K := K) (a := L) (xs := lvs) (fun j σ H3 => ∃ (o7 : Option V) (bvs : List V), σ = [some (.ref d), some (.ref tp), some (.ref D), some (.ref N), some (nv (st + 1)), some (.ref M), some (.ref tq), o7] ∧ Same H H3 ∧ H3 N = some (.lst nvs) ∧ TupKeep (upd H2 l (.lst [])) H3 ∧ H3 L = some (.lst lvs) ∧
            H3 D = some (.dT (encE nv (findAll (st + 1) ((near.take i).flatMap (bnds b) ++ (bnds b q).take j) (es, [])).1)) ∧ H3 M = some (.lst bvs) ∧ Paired (isPair H3) bvs (findAll (st + 1) ((near.take i).flatMap (bnds b) ++ (bnds b q).take j) (es, [])).2) ?_ ?_ ?_ ?_⟩
          · refine ⟨o7', bvs, rfl, s5.trans s6, s6 _ _ hN5, fun b' xs e => e, hL, ?_, s6 _ _ hM5, ?_⟩
            · rw [List.take_zero, List.append_nil]; exact s6 _ _ hD5
            · rw [List.take_zero, List.append_nil]; exact Paired.mono (fun v x h => tk_Pair (TupKeep.of s6) h) pb5
          · rintro j σ H3 _ ⟨_, _, _, _, _, _, hL3, _⟩
            exact SqL.of hL3
          · rintro j y σ H3 hy ⟨o7'', bvs', rfl, s7, hN7, tk7, hL7, hD7, hM7, pb7⟩
            obtain ⟨r, hrr, hyr⟩ := pd_get pL hy
            obtain ⟨tr, rfl, htr⟩ := pair_key (tk_Pair tk7 hyr)
            have F := found_all (s := st + 1) (bh := []) B.nd ((near.take i).flatMap (bnds b) ++ (bnds b q).take j)
            have esnap : (near.take i).flatMap (bnds b) ++ (bnds b q).take (j + 1) = ((near.take i).flatMap (bnds b) ++ (bnds b q).take j) ++ [r] := by rw [take_snoc hrr, List.append_assoc]
            generalize hfs : findAll (st + 1) ((near.take i).flatMap (bnds b) ++ (bnds b q).take j) (es, []) = fs at F hD7 pb7
            have estep : findAll (st + 1) ((near.take i).flatMap (bnds b) ++ (bnds b q).take (j + 1)) (es, []) = find1 (st + 1) fs r := by rw [esnap, findAll_snoc, hfs]
            rw [estep]
            -- how many there may be
            have hang : ∀ z ∈ fs.1.map (·.1), hangs b p z := fun z hz => by
              rcases (found_keys F z).mp hz with y | y
              · exact ⟨_, (B.keys z).mp y⟩
              · have qn : ∀ t ∈ near, hangs b p t := fun t ht => ⟨_, ((B.near t).mp ht).1⟩
                rcases List.mem_append.mp y with y | y
                · obtain ⟨t, ht, hz⟩ := List.mem_flatMap.mp y
                  exact (qn t (List.mem_of_mem_take ht)).snoc (bnds_mem.mp hz)
                · exact (qn q (List.mem_of_getElem? hq)).snoc (bnds_mem.mp (List.mem_of_mem_take y))
            have l36 : fs.1.length ≤ 36 := hung_len G hpB F.nd hang
            have fl := F.len
            rw [List.length_nil] at fl
            refine ⟨_, rfl, _, rfl, D, _, rfl, DGet.t hD7 htr, _, rfl, ite2 (fun e1 => ?_) (fun e1 => ?_)⟩
            · -- a new one
              have nk : r ∉ fs.1.map (·.1) := fun z => by
                obtain ⟨v', hv'⟩ := enc_there (f := nv) z
                rw [hv'] at e1; simp at e1
              have ef : find1 (st + 1) fs r = (fs.1 ++ [(r, st + 1)], fs.2 ++ [r]) := by unfold find1; rw [if_neg nk]
              rw [ef]
              refine ⟨_, rfl, _, rfl, _, rfl, D, _, rfl, DPut.t hD7 htr (by unfold encE; rw [List.length_map, sizeLine_eq]; omega), ?_⟩
              rw [enc_put (f := nv) (st + 1) nk]
              have hM8 : (upd H3 D (.dT (encE nv (fs.1 ++ [(r, st + 1)])))) M = some (.lst bvs') := by rw [upd_ne hMD]; exact hM7
              have tk8 : TupKeep H3 (upd H3 D (.dT (encE nv (fs.1 ++ [(r, st + 1)])))) := fun b' xs e => by rw [upd_ne (ne_of e hD7 (by intro z; cases z))]; exact e
              refine ⟨_, rfl, .inl ⟨rfl, _, SqL.of hM8⟩, _, rfl, M, bvs', _, rfl, rfl, hM8, by have := pd_len pb7; rw [sizeLine_eq]; omega, ?_⟩
              have tk9 := tk8.trans (TupKeep.lst (o := .lst (bvs' ++ [.ref tr])) hM8)
              refine ⟨_, bvs' ++ [.ref tr], rfl, fun b' o eb => ?_, ?_, tk7.trans tk9, ?_, ?_, upd_same, ?_⟩
              · rw [upd_ne (ne_of_none eb hMH), upd_ne (ne_of_none eb hD)]; exact s7 _ _ eb
              · rw [upd_ne hMN, upd_ne (ne_of hN7 hD7 (by intro z; cases z))]; exact hN7
              · rw [upd_ne nLM, upd_ne hLD]; exact hL7
              · rw [upd_ne hMD.symm, upd_same]
              · exact Paired.snoc (Paired.mono (fun v x h => tk_Pair tk9 h) pb7) ⟨tr, rfl, tk9 _ _ htr⟩
            · have hk : r ∈ fs.1.map (·.1) := Classical.byContradiction fun z => e1 (by rw [enc_none z]; rfl)
              have ef : find1 (st + 1) fs r = fs := by unfold find1; rw [if_pos hk]
              rw [ef]
              exact ⟨_, bvs', rfl, s7, hN7, tk7, hL7, hD7, hM7, pb7⟩
          · rintro σ H3 ⟨o7'', bvs', rfl, s7, hN7, tk7, hL7, hD7, hM7, pb7⟩
            rw [hpl, List.take_length] at hD7 pb7
            refine ⟨_, _, bvs', rfl, s7, hN7, Paired.mono (fun v x h => tk_Pair ((TupKeep.of s6).trans tk7) h) pd5, ?_, hM7, ?_⟩
            · rw [take_snoc hq, List.flatMap_append, List.flatMap_cons, List.flatMap_nil, List.append_nil]; exact hD7
            · rw [take_snoc hq, List.flatMap_append, List.flatMap_cons, List.flatMap_nil, List.append_nil]; exact pb7
        · rintro σ H2 ⟨o6', o7', bvs, rfl, s5, hN5, pd5, hD5, hM5, pb5⟩
          rw [hnl, List.take_length] at hD5 pb5
          exact ⟨_, rfl, _, _, _, M, bvs, rfl, s5, hD5, hM5, pb5⟩
    · have e : near = [] := by
        cases near with
        | nil => rfl
        | cons x l => exact absurd (decide_eq_true (by rw [List.length_cons] at hnl; omega)) e
      subst e
      exact ⟨_, rfl, k _ _ s3 ⟨D, es, rfl, hD, hD3, bfs_end B⟩⟩
end
end Mf

namespace Mf
open PySem PySem.Spec PyProof.Rows L2 Km482
def LstAll (H H' : Hp) : Prop := ∀ b xs, H b = some (.lst xs) → H' b = some (.lst xs)
theorem la_Rows {H H' : Hp} {v : V} {T : List (List Nat)} (k : LstAll H H') (h : isRows H v T) : isRows H' v T := by
  obtain ⟨a, vs, rfl, h0, p⟩ := h
  refine ⟨a, vs, rfl, k _ _ h0, Paired.mono (fun x r h => ?_) p⟩
  obtain ⟨c, rfl, hc⟩ := h
  exact ⟨c, rfl, k _ _ hc⟩
theorem la_frz {H : Hp} {d : Addr} {kvs : List (List Key × V)} {o : HO} (h : H d = some (.dT kvs)) : LstAll H (upd H d o) := fun b xs e => by
  rw [upd_ne (ne_of e h (by intro z; cases z))]; exact e
theorem tk_frz {H : Hp} {d : Addr} {kvs : List (List Key × V)} {o : HO} (h : H d = some (.dT kvs)) : TupKeep H (upd H d o) := fun b xs e => by
  rw [upd_ne (ne_of e h (by intro z; cases z))]; exact e
theorem unlock_same {H H' : Hp} {d : Addr} {u o : HO} (h : H d = some u) (s : Same (upd H d o) H') : Same H (upd H' d u) := fun b x e => by
  by_cases z : b = d
  · subst z; rw [h] at e; cases e; exact upd_same
  · rw [upd_ne z]; exact s _ _ (by rw [upd_ne z]; exact e)
theorem enc_get {f : Nat → V} {es : List (Pt × Nat)} {i : Nat} {k : List Key} {v : V} (h : (encE f es)[i]? = some (k, v)) : ∃ e, es[i]? = some e ∧ k = key e.1 ∧ v = f e.2 := by
  unfold encE at h
  rw [List.getElem?_map] at h
  cases e : es[i]? with
  | none => rw [e] at h; cases h
  | some x => rw [e] at h; cases h; exact ⟨x, rfl, rfl, rfl⟩
section
variable {P : Program} {w : World} {K : PySem.W.Frag} {mg : Str → Option Value} {base : Heap} {Cp Cl : Addr}
abbrev s_least_laid : Stmt := top 64
theorem sc_least_laid : FnScope ["rows", "hung", "duty"] ["rows", "hung"] (defScope s_least_laid) := ⟨rfl, rfl, rfl, by decide +kernel, rfl, by decide +kernel, by decide +kernel⟩
def sp_least_laid : Sp := fun vs H Q _ => ∃ v d T n es, vs = [v, .ref d] ∧ isRows H v T ∧ Shape n T ∧ H d = some (.dT (encE nv es)) ∧ 0 < es.length ∧ es.length ≤ 36 ∧ (∀ e ∈ es, inB n e.1) ∧
  ∀ (m : Nat) H', (∃ e ∈ es, get2 T e.1.1 e.1.2 = m) → (∀ e ∈ es, m ≤ get2 T e.1.1 e.1.2) → Same H H' → Q (nv m) H'
theorem ok_least_laid {f : Addr} {fd : FuncData} (F : Fun K "least_laid" "least_laid" s_least_laid f fd) (T : Txt K mg Cp Cl) : FnOk P w K mg base CX0 1 f fd ["rows", "hung"] sp_least_laid := by
  refine F.ok sc_least_laid (fun vs H Q E h => ?_) (fun cdv A outer s H vs Q E hr h => ?_)
  · obtain ⟨v, d, Tb, n, es, rfl, _⟩ := h
    rfl
  · obtain ⟨v, d, Tb, n, es, rfl, hR, sh, hd, e0, e36, hin, k⟩ := h
    refine ⟨_, (pss_one (ps_ret (pe_callB (cr_min rfl) (by rfl) T.b_min (by rfl) (pa_cons (pe_lock (pe_lc rfl sc_least_laid.nd (pi_keys (pv 1)) (blkOk_by (own := [("duty", 2)]) (by show blkC ["rows", "hung", "duty"] (defScope s_least_laid) _ _ = true; decide +kernel)) (fun _ _ _ _ _ => (pg_name (i := 2) sc_least_laid.nd rfl (Or.inl rfl))) (fun _ _ _ _ _ => pts_nil) (fun _ _ _ _ _ => (pe_ix (ix_listK (K := K) rfl) (pe_ix (ix_listK (K := K) rfl) (pv 0) (pe_ix (ix_tupK (K := K) rfl) (pv 2) pe_int (fun _ _ => rfl)) (fun _ _ => rfl)) (pe_ix (ix_tupK (K := K) rfl) (pv 2) pe_int (fun _ _ => rfl)) (fun _ _ => rfl))))) pa_nil)))), ?_⟩
    refine ⟨d, _, hd, True.intro, fun od => ?_⟩
    have hR1 := la_Rows (la_frz (o := .frz od (.dT (encE nv es))) hd) hR
    refine ⟨_, rfl, d, od, rfl, .inr ⟨_, upd_same, fun D hD => lc_keysT (fun i H' => Same (upd H d (.frz od (.dT (encE nv es)))) H' ∧ H' D = some (.lst ((es.take i).map fun e => nv (get2 Tb e.1.1 e.1.2)))) ?_ ?_ ?_ ?_⟩⟩
    · exact ⟨same_new hD, upd_same⟩
    · rintro i H' _ ⟨s1, _⟩
      exact s1 _ _ upd_same
    · rintro i kk vv q H' hkv hq ⟨s1, hD'⟩
      obtain ⟨e, he, rfl, rfl⟩ := enc_get hkv
      have le := (List.getElem?_eq_some_iff.mp he).1
      obtain ⟨i1, i2⟩ := hin e (List.mem_of_getElem? he)
      obtain ⟨l0, rvs, l2, r, rfl, b3, b4, b5, b6, _⟩ := rows_at hR1 sh i1 i2
      refine ⟨rfl, ?_⟩
      refine ⟨_, rfl, _, rfl, q, _, _, _, rfl, rfl, SqT.of hq, atI_nat (j := 0) rfl, l0, _, _, _, rfl, rfl, SqL.of (s1 _ _ b3), atI_nat b4, _, rfl, q, _, _, _, rfl, rfl, SqT.of hq, atI_nat (j := 1) rfl, l2, _, _, _, rfl, rfl, SqL.of (s1 _ _ b5), atI_nat b6, ?_⟩
      refine ⟨_, hD', by rw [List.length_map, List.length_take, sizeLine_eq]; omega, fun b' o eb => ?_, ?_⟩
      · rw [upd_ne (ne_of_none eb hD)]; exact s1 _ _ eb
      · rw [upd_same, take_snoc he, List.map_append]; rfl
    · rintro H' ⟨s1, hD'⟩
      refine ⟨s1 _ _ upd_same, ?_⟩
      have el : (encE nv es).length = es.length := by unfold encE; rw [List.length_map]
      rw [el, List.take_length] at hD'
      have nDd : D ≠ d := fun z => by rw [z, upd_same] at hD; cases hD
      have hD2 : (upd H' d (.dT (encE nv es))) D = some (.lst ((es.map fun e => (get2 Tb e.1.1 e.1.2 : Int)).map V.int)) := by
        rw [upd_ne nDd, hD', List.map_map]; rfl
      refine ⟨D, _, rfl, SqL.of hD2, by rw [List.length_map]; exact e0, fun m hm hm2 => ?_⟩
      obtain ⟨e, he, rfl⟩ := List.mem_map.mp hm
      refine k _ _ ⟨e, he, rfl⟩ (fun e' he' => ?_) (unlock_same hd s1)
      have := hm2 _ (List.mem_map.mpr ⟨e', he', rfl⟩)
      omega
abbrev s_nearest_as_low : Stmt := top 65
theorem sc_nearest_as_low : FnScope ["pact", "g", "i", "j", "rows", "hung", "least", "duty"] ["pact", "g", "i", "j"] (defScope s_nearest_as_low) := ⟨rfl, rfl, rfl, by decide +kernel, rfl, by decide +kernel, by decide +kernel⟩
def isTri (H : Hp) (v : V) (x : Nat × Pt) : Prop := ∃ a, v = .ref a ∧ H a = some (.tup [nv x.1, nv x.2.1, nv x.2.2])
def sp_nearest_as_low (Cp : Addr) : Sp := fun vs H Q _ => ∃ v b g i j, vs = [v, nv g, nv i, nv j] ∧ isPact Cp H v b ∧ Good b ∧ pairB b.n (i, j) ∧ g < b.m ∧ ∀ v' H', Same H H' → isTri H' v' (b.why i j g) → Q v' H'
theorem lex3 {a b c a' b' c' : Nat} : HT.lexLt [(a : Int), (b : Int), (c : Int)] [(a' : Int), (b' : Int), (c' : Int)] = true ↔ a < a' ∨ (a = a' ∧ (b < b' ∨ (b = b' ∧ c < c'))) := by
  rw [HT.lexLt_cons, HT.lexLt_cons, HT.lexLt_cons]
  by_cases h1 : (a : Int) = a'
  · rw [if_pos h1]
    by_cases h2 : (b : Int) = b'
    · rw [if_pos h2]
      by_cases h3 : (c : Int) = c'
      · rw [if_pos h3]; show false = true ↔ _; constructor
        · intro z; cases z
        · intro z; omega
      · rw [if_neg h3, decide_eq_true_iff]; omega
    · rw [if_neg h2, decide_eq_true_iff]; omega
  · rw [if_neg h1, decide_eq_true_iff]; omega
theorem ok_nearest_as_low {f : Addr} {fd : FuncData} (F : Fun K "nearest_as_low" "nearest_as_low" s_nearest_as_low f fd) (T : Txt K mg Cp Cl) (C_hangs_by : Callee P w K mg base "hangs_by" 1 ["bounds", "duty"] sp_hangs_by) (C_bounds_by_duty : Callee P w K mg base "bounds_by_duty" 5 ["pact"] (sp_bounds_by_duty Cp)) (C_least_laid : Callee P w K mg base "least_laid" 1 ["rows", "hung"] sp_least_laid) : FnOk P w K mg base CX0 6 f fd ["pact", "g", "i", "j"] (sp_nearest_as_low Cp) := by
  refine F.ok sc_nearest_as_low (fun vs H Q E h => ?_) (fun cdv A outer s H vs Q E hr h => ?_)
  · obtain ⟨v, b, g, i, j, rfl, _⟩ := h
    rfl
  · obtain ⟨v, b, g, i, j, rfl, hP, G, hp, hg, k⟩ := h
    have hu1 := Nat.lt_of_le_of_lt (Nat.add_le_add_left (show 1 ≤ 64 by decide) _) (L2.hu64 hr)
    refine ⟨_, (pss_cons (ps_set (i := 4) sc_nearest_as_low.nd rfl (Or.inr rfl) (pe_ix ix_list (pe_fld (pv 0) rfl) (pv 1) (fun _ _ => rfl)))
      (pss_cons (ps_set (i := 5) sc_nearest_as_low.nd rfl (Or.inr rfl) (pe_callC C_hangs_by hr rfl (pa_cons (pe_callC C_bounds_by_duty hr rfl (pa_cons (pv 0) pa_nil)) (pa_cons (pe_tup (pa_cons (pv 2) (pa_cons (pv 3) pa_nil))) pa_nil))))
      (pss_cons (ps_set (i := 6) sc_nearest_as_low.nd rfl (Or.inr rfl) (pe_callC C_least_laid hr rfl (pa_cons (pv 4) (pa_cons (pv 5) pa_nil))))
      (pss_one (ps_ret (pe_callB (cr_minT rfl hu1) (by rfl) T.b_min (by rfl) (pa_cons (pe_lock (pe_lc rfl sc_nearest_as_low.nd (pi_keys (pv 5)) (blkOk_by (own := [("duty", 7)]) (by show blkC ["pact", "g", "i", "j", "rows", "hung", "least", "duty"] (defScope s_nearest_as_low) _ _ = true; decide +kernel)) (fun _ _ _ _ _ => (pg_name (i := 7) sc_nearest_as_low.nd rfl (Or.inl rfl))) (fun _ _ _ _ _ => (pts_one (pt_cmpR op_eq (pe_ix (ix_listK (K := K) rfl) (pe_ix (ix_listK (K := K) rfl) (pv 4) (pe_ix (ix_tupK (K := K) rfl) (pv 7) pe_int (fun _ _ => rfl)) (fun _ _ => rfl)) (pe_ix (ix_tupK (K := K) rfl) (pv 7) pe_int (fun _ _ => rfl)) (fun _ _ => rfl)) (pv 6) (nomark _)))) (fun _ _ _ _ _ => (pe_tup (pa_cons (pe_dget hu1 (pv 5) (pv 7) (fun _ _ => rfl)) (pa_cons (pe_ix (ix_tupK (K := K) rfl) (pv 7) pe_int (fun _ _ => rfl)) (pa_cons (pe_ix (ix_tupK (K := K) rfl) (pv 7) pe_int (fun _ _ => rfl)) pa_nil))))))) pa_nil))))))), ?_⟩
    have hP0 := hP
    obtain ⟨a, dx, fs, vl, vc, vu, rfl, ha, f1, f2, f3, f4, f5, r1, r2, r3⟩ := hP0
    obtain ⟨l0, lvs, v1, rfl, q0, q1, q2⟩ := laid_rows r1 hg
    refine ⟨_, rfl, a, Cp, dx, _, _, rfl, ha, T.cl_Pact, T.a_laid, f3, _, rfl, l0, _, _, _, rfl, rfl, SqL.of q0, atI_nat q1, ?_⟩
    refine ⟨_, rfl, _, b, rfl, hP, G, fun vb H1 s1 hB => ?_⟩
    refine ⟨_, rfl, _, rfl, (by show 2 ≤ sizeLine; decide), fun tp ntp => ?_⟩
    have s2 := s1.trans (same_new (o := .tup [nv i, nv j]) ntp)
    refine ⟨_, _, b, (i, j), rfl, isBD.keep (same_new ntp) hB, ⟨tp, rfl, upd_same⟩, G, hp, fun vh H2 s3 hU => ?_⟩
    obtain ⟨d, es, rfl, nd, hd, U⟩ := hU
    have s4 := s2.trans s3
    have sh : Shape b.n (laidRows b g) := rows_shape _ _
    have e36 : es.length ≤ 36 := hung_len G hp U.nd fun q hq => (U.keys q).mp hq
    have hin : ∀ e ∈ es, inB b.n e.1 := fun e he => (hangs_pairB G hp ((U.keys e.1).mp (List.mem_map.mpr ⟨e, he, rfl⟩))).inB
    have e0 : 0 < es.length := by
      have : (i, j) ∈ es.map (·.1) := (U.keys _).mpr (hangs.refl b _)
      have := List.length_pos_of_mem this
      rw [List.length_map] at this; exact this
    have hR2 := st_Rows (Cl := Cl) _ _ _ _ (Keep.of s4) q2
    refine ⟨_, rfl, _, rfl, _, d, laidRows b g, b.n, es, rfl, hR2, sh, hd, e0, e36, hin, fun m H3 hm1 hm2 s5 => ?_⟩
    have gl : ∀ e ∈ es, get2 (laidRows b g) e.1.1 e.1.2 = b.duty e.1.1 e.1.2 g := fun e he => get_laid (hin e he).1 (hin e he).2
    have em : m = b.takes i j g := takes_low G hp U (by obtain ⟨e, he, z⟩ := hm1; exact ⟨e, he, by rw [← gl e he]; exact z⟩) (fun e he => by rw [← gl e he]; exact hm2 e he)
    have hd3 := s5 _ _ hd
    have hR3 := st_Rows (Cl := Cl) _ _ _ _ (Keep.of s5) hR2
    refine ⟨d, _, hd3, True.intro, fun od => ?_⟩
    have hR4 := la_Rows (la_frz (o := .frz od (.dT (encE nv es))) hd3) hR3
    refine ⟨_, rfl, d, od, rfl, .inr ⟨_, upd_same, fun D hD => lc_keysT (fun c H' => ∃ ts : List (Addr × (Pt × Nat)), Same (upd H3 d (.frz od (.dT (encE nv es)))) H' ∧ H' D = some (.lst (ts.map fun t => V.ref t.1)) ∧ ts.map (·.2) = (es.take c).filter (fun e => decide (b.duty e.1.1 e.1.2 g = m)) ∧ (∀ t ∈ ts, H' t.1 = some (.tup [nv t.2.2, nv t.2.1.1, nv t.2.1.2])) ∧ ts.length ≤ c) ?_ ?_ ?_ ?_⟩⟩
    · exact ⟨[], same_new hD, upd_same, rfl, fun t ht => by simp at ht, Nat.le_refl _⟩
    · rintro c H' _ ⟨_, s6, _⟩
      exact s6 _ _ upd_same
    · rintro c kk vv q H' hkv hq ⟨ts, s6, hD', ets, hts, lts⟩
      obtain ⟨e, he, rfl, rfl⟩ := enc_get hkv
      have le := (List.getElem?_eq_some_iff.mp he).1
      have me := List.mem_of_getElem? he
      obtain ⟨i1, i2⟩ := hin e me
      obtain ⟨c0, rvs, c2, r, rfl, b3, b4, b5, b6, _⟩ := rows_at hR4 sh i1 i2
      refine ⟨rfl, ?_⟩
      refine ⟨_, rfl, _, rfl, q, _, _, _, rfl, rfl, SqT.of hq, atI_nat (j := 0) rfl, c0, _, _, _, rfl, rfl, SqL.of (s6 _ _ b3), atI_nat b4, _, rfl, q, _, _, _, rfl, rfl, SqT.of hq, atI_nat (j := 1) rfl, c2, _, _, _, rfl, rfl, SqL.of (s6 _ _ b5), atI_nat b6, _, rfl, rfl, _, rfl, ite2 (fun z => ?_) (fun z => ?_)⟩
      · have z : b.duty e.1.1 e.1.2 g = m := by
          have := of_decide_eq_true z
          injection this with this
          rw [gl e me] at this; omega
        have hdr : Rd H' d (.dT (encE nv es)) := .inr ⟨od, s6 _ _ upd_same⟩
        obtain ⟨ve, hve⟩ := enc_there (f := nv) (List.mem_map.mpr ⟨e, me, rfl⟩ : e.1 ∈ es.map (·.1))
        obtain ⟨e', he', ee, rfl⟩ := enc_some hve
        have ee' := nd_key U.nd he' me ee
        subst ee'
        refine ⟨_, rfl, _, rfl, d, nv e'.2, rfl, .inr ⟨_, key e'.1, q, hdr, rfl, hq, hve.symm⟩, _, rfl, q, _, _, _, rfl, rfl, SqT.of hq, atI_nat (j := 0) rfl, _, rfl, q, _, _, _, rfl, rfl, SqT.of hq, atI_nat (j := 1) rfl, (by show 3 ≤ sizeLine; decide), fun t nt => ?_⟩
        have s7 := same_new (o := .tup [nv e'.2, nv e'.1.1, nv e'.1.2]) nt
        refine ⟨_, s7 _ _ hD', by rw [List.length_map, sizeLine_eq]; omega, ts ++ [(t, e')], fun b' o eb => ?_, ?_, ?_, ?_, ?_⟩
        · rw [upd_ne (ne_of_none eb hD)]; exact s7 _ _ (s6 _ _ eb)
        · rw [upd_same, List.map_append]; rfl
        · rw [List.map_append, ets, take_snoc he, List.filter_append, List.filter_cons_of_pos (by simp [z])]; rfl
        · intro t' ht'
          have tk : TupKeep H' (upd (upd H' t (.tup [nv e'.2, nv e'.1.1, nv e'.1.2])) D (.lst (ts.map (fun t => V.ref t.1) ++ [.ref t]))) := (TupKeep.of s7).trans (TupKeep.lst (s7 _ _ hD'))
          rcases List.mem_append.mp ht' with y | y
          · exact tk _ _ (hts t' y)
          · rw [List.mem_singleton.mp y]
            exact TupKeep.lst (s7 _ _ hD') _ _ upd_same
        · rw [List.length_append, List.length_singleton]; omega
      · have z : ¬ b.duty e.1.1 e.1.2 g = m := fun y => z (by rw [gl e me, y]; simp)
        refine ⟨ts, s6, hD', ?_, hts, by omega⟩
        rw [ets, take_snoc he, List.filter_append, List.filter_cons_of_neg (by simp [z]), List.filter_nil, List.append_nil]
    · rintro H' ⟨ts, s6, hD', ets, hts, lts⟩
      refine ⟨s6 _ _ upd_same, ?_⟩
      have el : (encE nv es).length = es.length := by unfold encE; rw [List.length_map]
      rw [el, List.take_length] at ets
      have nDd : D ≠ d := fun z => by rw [z, upd_same] at hD; cases hD
      have tku : TupKeep H' (upd H' d (.dT (encE nv es))) := fun b' xs e => by rw [upd_ne (ne_of e (s6 _ _ upd_same) (by intro z; cases z))]; exact e
      have hD2 : (upd H' d (.dT (encE nv es))) D = some (.lst ((ts.map fun t => ((t.1, [(t.2.2 : Int), (t.2.1.1 : Int), (t.2.1.2 : Int)]) : Addr × List Int)).map fun t => V.ref t.1)) := by
        rw [upd_ne nDd, hD', List.map_map]; rfl
      have tes : ∀ t ∈ ts, t.2 ∈ es ∧ b.duty t.2.1.1 t.2.1.2 g = m := fun t ht => by
        have : t.2 ∈ ts.map (·.2) := List.mem_map.mpr ⟨t, ht, rfl⟩
        rw [ets] at this
        obtain ⟨y1, y2⟩ := List.mem_filter.mp this
        exact ⟨y1, of_decide_eq_true y2⟩
      have est : ∀ e ∈ es, b.duty e.1.1 e.1.2 g = m → ∃ t ∈ ts, t.2 = e := fun e he z => by
        have : e ∈ ts.map (·.2) := by rw [ets]; exact List.mem_filter.mpr ⟨he, decide_eq_true z⟩
        obtain ⟨t, ht, y⟩ := List.mem_map.mp this
        exact ⟨t, ht, y⟩
      refine ⟨D, _, rfl, SqL.of hD2, fun t ht => ?_, ?_, fun mt hmt hmin => ?_⟩
      · obtain ⟨t', ht', rfl⟩ := List.mem_map.mp ht
        exact tku _ _ (hts t' ht')
      · obtain ⟨e, he, z⟩ := hm1
        obtain ⟨t, ht, _⟩ := est e he (by rw [← gl e he]; exact z)
        rw [List.length_map]
        exact List.length_pos_of_mem ht
      · obtain ⟨t, ht, rfl⟩ := List.mem_map.mp hmt
        obtain ⟨te, td⟩ := tes t ht
        have W : Why b (i, j) m g t.2.2 t.2.1 := why_min G hp U te td fun e' he' z y => by
          obtain ⟨t', ht', e2⟩ := est e' he' z
          have := hmin _ (List.mem_map.mpr ⟨t', ht', rfl⟩)
          rw [e2] at this
          rw [lex3.mpr y] at this
          cases this
        rw [em] at W
        obtain ⟨w1, w2⟩ := W.unique (why_spec G hp g)
        refine k _ _ ((s4.trans s5).trans (unlock_same hd3 s6)) ⟨t.1, rfl, ?_⟩
        rw [← w1, ← w2]
        exact tku _ _ (hts t ht)
abbrev s_mf_why : Stmt := top 77
theorem sc_mf_why : FnScope ["pact", "i", "j", "g", "refusal"] ["pact", "i", "j", "g"] (defScope s_mf_why) := ⟨rfl, rfl, rfl, by decide +kernel, rfl, by decide +kernel, by decide +kernel⟩
def sp_mf_why (Cp : Addr) : Sp := fun vs H Q _ => ∃ v b i j g, vs = [v, nv i, nv j, nv g] ∧ isPact Cp H v b ∧ Good b ∧ ∀ v' H', Same H H' → isAns H' v' (ans b (.why i j g)) → Q v' H'
theorem ok_mf_why {f : Addr} {fd : FuncData} (F : Fun K "mf_why" "mf_why" s_mf_why f fd) (T : Txt K mg Cp Cl) (C_refusal_of_duty : Callee P w K mg base "refusal_of_duty" 3 ["pact", "i", "j", "g"] (sp_refusal_of_duty Cp)) (C_nearest_as_low : Callee P w K mg base "nearest_as_low" 6 ["pact", "g", "i", "j"] (sp_nearest_as_low Cp)) : FnOk P w K mg base CX0 7 f fd ["pact", "i", "j", "g"] (sp_mf_why Cp) := by
  refine F.ok sc_mf_why (fun vs H Q E h => ?_) (fun cdv A outer s H vs Q E hr h => ?_)
  · obtain ⟨v, b, i, j, g, rfl, _⟩ := h
    rfl
  · obtain ⟨v, b, i, j, g, rfl, hP, G, k⟩ := h
    refine ⟨_, (pss_cons (ps_set (i := 4) sc_mf_why.nd rfl (Or.inl rfl) (pe_callC C_refusal_of_duty hr rfl (pa_cons (pv 0) (pa_cons (pv 1) (pa_cons (pv 2) (pa_cons (pv 3) pa_nil))))))
      (pss_cons (ps_if (pt_cmpR op_ne (pv 4) (pe_gi rfl T.g_NO_REFUSAL) (nomark _)) (pss_one (ps_ret (pe_lst (pa_cons (pv 4) pa_nil)))) pss_nil)
      (pss_one (ps_ret (pe_callTy call_list_of (by rfl) T.b_list (by rfl) (pa_cons (pe_callC C_nearest_as_low hr rfl (pa_cons (pv 0) (pa_cons (pv 3) (pa_cons (pv 1) (pa_cons (pv 2) pa_nil))))) pa_nil)))))), ?_⟩
    refine ⟨_, rfl, _, rfl, _, rfl, _, rfl, _, b, i, j, g, rfl, hP, ?_⟩
    refine ⟨_, rfl, rfl, _, rfl, ?_⟩
    rcases ref3_cases b i j g with ⟨h1, e⟩ | ⟨h1, h2, e⟩ | ⟨h1, h2, e, hi, hj, hg⟩
    · rw [e]
      refine ⟨_, rfl, (by show 1 ≤ sizeLine; decide), fun p hp => k _ _ (same_new hp) ?_⟩
      have e2 : ans b (.why i j g) = [-2] := by unfold ans; simp only [act]; rw [if_pos h1]; rfl
      rw [e2]; exact ans_one hp
    · rw [e]
      refine ⟨_, rfl, (by show 1 ≤ sizeLine; decide), fun p hp => k _ _ (same_new hp) ?_⟩
      have e2 : ans b (.why i j g) = [-22] := by unfold ans; simp only [act]; rw [if_neg h1, if_pos h2]; rfl
      rw [e2]; exact ans_one hp
    · rw [e]
      refine ⟨_, rfl, _, rfl, _, rfl, _, rfl, v, b, g, i, j, rfl, hP, G, ⟨hi, hj, h2⟩, hg, fun v' H1 s1 hv => ?_⟩
      obtain ⟨a, rfl, ha⟩ := hv
      refine ⟨a, _, rfl, .inr (SqT.of ha), fun l hl => k _ _ (s1.trans (same_new hl)) ⟨l, rfl, ?_⟩⟩
      rw [upd_same]
      have e2 : ans b (.why i j g) = [((b.why i j g).1 : Int), ((b.why i j g).2.1 : Int), ((b.why i j g).2.2 : Int)] := by
        unfold ans
        simp only [act]
        rw [if_neg h1, if_neg h2]; rfl
      rw [e2]; rfl
end
end Mf

namespace Mf
open PySem PySem.Spec PyProof.Rows L2 Km482
/-! ### which duties move -/
def mvB (b : Book) (i j g t q : Nat) : Bool := q != t && ((b.far (t, q)).contains (i, j) && b.takes t q g == b.duty i j g)
def mvRow (b : Book) (i j g t q : Nat) : List Nat := (List.range q).filter (mvB b i j g t)
def mvTo (b : Book) (i j g t : Nat) : List Nat := (List.range t).flatMap fun t => mvRow b i j g t b.n
theorem mvTo_succ (b : Book) (i j g t : Nat) : mvTo b i j g (t + 1) = mvTo b i j g t ++ mvRow b i j g t b.n := by
  unfold mvTo
  rw [List.range_succ, List.flatMap_append, List.flatMap_cons, List.flatMap_nil, List.append_nil]
theorem mvRow_succ (b : Book) (i j g t q : Nat) : mvRow b i j g t (q + 1) = mvRow b i j g t q ++ (if mvB b i j g t q = true then [q] else []) := range_filter_succ _ _
theorem flat_lens {α β γ : Type} {f : α → List β} {h : α → List γ} : ∀ {l : List α}, (∀ x ∈ l, (f x).length = (h x).length) → (l.flatMap f).length = (l.flatMap h).length
  | [], _ => rfl
  | x :: l, e => by rw [List.flatMap_cons, List.flatMap_cons, List.length_append, List.length_append, e x (by simp), flat_lens (l := l) fun y hy => e y (by simp [hy])]
theorem moved_len (b : Book) (i j g : Nat) : (b.moved i j g).length = (mvTo b i j g b.n).length := by
  unfold Book.moved mvTo Book.pairs Book.states
  rw [List.filter_flatMap]
  refine flat_lens fun t _ => ?_
  rw [List.filter_map, List.length_map, List.filter_filter]
  unfold mvRow
  congr 1
  apply List.filter_congr
  intro q _
  unfold mvB
  exact Bool.and_comm _ _
section
variable {P : Program} {w : World} {K : PySem.W.Frag} {mg : Str → Option Value} {base : Heap} {Cp Cl : Addr}
abbrev s_moved_by : Stmt := top 66
theorem sc_moved_by : FnScope ["pact", "g", "i", "j", "laid", "bounds", "takes", "moved", "taker", "payer", "duty"] ["pact", "g", "i", "j"] (defScope s_moved_by) := ⟨rfl, rfl, rfl, by decide +kernel, rfl, by decide +kernel, by decide +kernel⟩
def sp_moved_by (Cp : Addr) : Sp := fun vs H Q _ => ∃ v b g i j, vs = [v, nv g, nv i, nv j] ∧ isPact Cp H v b ∧ Good b ∧ pairB b.n (i, j) ∧ g < b.m ∧ ∀ a vs H', Same H H' → H' a = some (.lst vs) → vs.length = (b.moved i j g).length → Q (.ref a) H'
theorem ok_moved_by {f : Addr} {fd : FuncData} (F : Fun K "moved_by" "moved_by" s_moved_by f fd) (T : Txt K mg Cp Cl) (C_bounds_by_duty : Callee P w K mg base "bounds_by_duty" 5 ["pact"] (sp_bounds_by_duty Cp)) (C_taken_of : Callee P w K mg base "taken_of" 5 ["pact", "g"] (sp_taken_of Cp)) (C_hangs_by : Callee P w K mg base "hangs_by" 1 ["bounds", "duty"] sp_hangs_by) : FnOk P w K mg base CX0 6 f fd ["pact", "g", "i", "j"] (sp_moved_by Cp) := by
  refine F.ok sc_moved_by (fun vs H Q E h => ?_) (fun cdv A outer s H vs Q E hr h => ?_)
  · obtain ⟨v, b, g, i, j, rfl, _⟩ := h
    rfl
  · obtain ⟨v, b, g, i, j, rfl, hP, G, hp, hg, k⟩ := h
    have hu1 := Nat.lt_of_le_of_lt (Nat.add_le_add_left (show 1 ≤ 64 by decide) _) (L2.hu64 hr)
    refine ⟨_, (pss_cons (ps_set (i := 4) sc_moved_by.nd rfl (Or.inl rfl) (pe_ix ix_list (pe_ix ix_list (pe_ix ix_list (pe_fld (pv 0) rfl) (pv 1) (fun _ _ => rfl)) (pv 2) (fun _ _ => rfl)) (pv 3) (fun _ _ => rfl)))
      (pss_cons (ps_set (i := 5) sc_moved_by.nd rfl (Or.inl rfl) (pe_callC C_bounds_by_duty hr rfl (pa_cons (pv 0) pa_nil)))
      (pss_cons (ps_set (i := 6) sc_moved_by.nd rfl (Or.inl rfl) (pe_callC C_taken_of hr rfl (pa_cons (pv 0) (pa_cons (pv 1) pa_nil))))
      (pss_cons (ps_set (i := 7) sc_moved_by.nd rfl (Or.inl rfl) (pe_lst pa_nil))
      (pss_cons (ps_for PassesOwn.never rfl (pi_range1 rfl T.b_range (pa_cons (pe_fld (pv 0) rfl) pa_nil)) (pg_name (i := 8) sc_moved_by.nd rfl (Or.inl rfl))
      (pss_one (ps_for PassesOwn.never rfl (pi_range1 rfl T.b_range (pa_cons (pe_fld (pv 0) rfl) pa_nil)) (pg_name (i := 9) sc_moved_by.nd rfl (Or.inl rfl))
      (pss_cons (ps_set (i := 10) sc_moved_by.nd rfl (Or.inl rfl) (pe_tup (pa_cons (pv 8) (pa_cons (pv 9) pa_nil))))
      (pss_one (ps_if (PW.pt (pw_and (pt_cmpR op_ne (pv 8) (pv 9) (nomark _)) (pw_and (pt_cmpR op_eq (pe_ix ix_list (pe_ix ix_list (pv 6) (pv 8) (fun _ _ => rfl)) (pv 9) (fun _ _ => rfl)) (pv 4) (nomark _)) (pw_and1 (pt_cmp (pc_din hu1 (pe_tup (pa_cons (pv 2) (pa_cons (pv 3) pa_nil))) (pe_callC C_hangs_by hr rfl (pa_cons (pv 5) (pa_cons (pv 10) pa_nil)))) (by with_unfolding_all rfl)))))) (pss_one (ps_expr (pe_bm PySem.F.plainAttrs_list PySem.F.slot_list_append PySem.F.type_list_append mt_append (pv 7) (pa_cons (pv 10) pa_nil)))) pss_nil))))))
      (pss_one (ps_ret (pv 7)))))))), ?_⟩
    have hP0 := hP
    obtain ⟨a, dx, fs, vl, vc, vu, rfl, ha, f1, f2, f3, f4, f5, r1, r2, r3⟩ := hP0
    obtain ⟨l0, lvs, l1, rvs, l2, rfl, q0, q1, q2, q3, q4, q5⟩ := laid_at r1 hp.1 hp.2.1 hg
    refine ⟨_, rfl, a, Cp, dx, _, _, rfl, ha, T.cl_Pact, T.a_laid, f3, _, rfl, l0, _, _, _, rfl, rfl, SqL.of q0, atI_nat q1, _, rfl, l1, _, _, _, rfl, rfl, SqL.of q2, atI_nat q3, _, rfl, l2, _, _, _, rfl, rfl, SqL.of q4, atI_nat q5, ?_⟩
    refine ⟨_, rfl, _, b, rfl, hP, G, fun vb H1 s1 hB => ?_⟩
    refine ⟨_, rfl, _, rfl, _, b, g, rfl, st_Pact T.ne _ _ _ _ (Keep.of s1) hP, G, hg, fun H2 ta as s2 R2 => ?_⟩
    have s12 := s1.trans s2
    have hB2 := isBD.keep s2 hB
    have hTk := R2.rows
    refine ⟨Nat.zero_le _, fun D hD => ?_⟩
    have s3 : Same H2 (upd H2 D (.lst [])) := same_new hD
    have n6 := G.n6
    have sh : Shape b.n (takenRows b g) := rows_shape _ _
    refine ⟨_, rfl, a, Cp, dx, _, _, rfl, s3 _ _ (s12 _ _ ha), T.cl_Pact, T.a_states, f1, (b.n : Int), rfl, by omega, by omega, for_range (fun t σ H' => ∃ (o8 o9 o10 : Option V) (ws : List V), σ = [some (.ref a), some (nv g), some (nv i), some (nv j), some (nv (b.duty i j g)), some vb, some (.ref ta), some (.ref D), o8, o9, o10] ∧ Same H2 H' ∧ H' D = some (.lst ws) ∧ ws.length = (mvTo b i j g t).length ∧ ws.length ≤ 6 * t) ?_ ?_ ?_⟩
    · exact ⟨none, none, none, [], rfl, s3, upd_same, rfl, Nat.le_refl _⟩
    · rintro t σ H' ht ⟨o8, o9, o10, ws, rfl, s4, hD4, hl4, hb4⟩
      have et : (0 + (t : Int)) = (t : Int) := by omega
      rw [et]
      have ht : t < b.n := by omega
      refine ⟨_, rfl, a, Cp, dx, _, _, rfl, s4 _ _ (s12 _ _ ha), T.cl_Pact, T.a_states, f1, (b.n : Int), rfl, by omega, by omega, for_range (fun q σ H' => ∃ (o9 o10 : Option V) (ws : List V), σ = [some (.ref a), some (nv g), some (nv i), some (nv j), some (nv (b.duty i j g)), some vb, some (.ref ta), some (.ref D), some (nv t), o9, o10] ∧ Same H2 H' ∧ H' D = some (.lst ws) ∧ ws.length = (mvTo b i j g t).length + (mvRow b i j g t q).length ∧ ws.length ≤ 6 * t + q) ?_ ?_ ?_⟩
      · exact ⟨o9, o10, ws, rfl, s4, hD4, by rw [hl4]; rfl, by omega⟩
      · rintro q σ H5 hq ⟨o9', o10', ws', rfl, s5, hD5, hl5, hb5⟩
        have eq : (0 + (q : Int)) = (q : Int) := by omega
        rw [eq]
        have hq : q < b.n := by omega
        refine ⟨_, rfl, _, rfl, (by show 2 ≤ sizeLine; decide), fun td ntd => ?_⟩
        have s6 : Same H5 (upd H5 td (.tup [nv t, nv q])) := same_new ntd
        have s26 := s5.trans s6
        -- where it is left out
        have skip : ∀ H7, Same (upd H5 td (.tup [nv t, nv q])) H7 → mvB b i j g t q = false → ∃ (o9 o10 : Option V) (ws : List V), ([some (.ref a), some (nv g), some (nv i), some (nv j), some (nv (b.duty i j g)), some vb, some (.ref ta), some (.ref D), some (nv t), some (nv q), some (.ref td)] : List (Option V)) = [some (.ref a), some (nv g), some (nv i), some (nv j), some (nv (b.duty i j g)), some vb, some (.ref ta), some (.ref D), some (nv t), o9, o10] ∧ Same H2 H7 ∧ H7 D = some (.lst ws) ∧ ws.length = (mvTo b i j g t).length + (mvRow b i j g t (q + 1)).length ∧ ws.length ≤ 6 * t + (q + 1) := fun H7 s7 hm => by
          refine ⟨_, _, ws', rfl, s26.trans s7, s7 _ _ (s6 _ _ hD5), ?_, by omega⟩
          rw [mvRow_succ, hm, if_neg (by decide), List.append_nil]; exact hl5
        obtain ⟨c0, cvs, c2, cr, zc, c3, c4, c5, c6, _⟩ := rows_at hTk sh ht hq
        cases zc
        refine ⟨_, rfl, _, rfl, rfl, _, rfl, ite2 (fun e1 => ?_) (fun e1 => ?_)⟩
        · have n1 : t ≠ q := fun z => by rw [z] at e1; simp at e1
          refine ⟨_, rfl, _, rfl, ta, _, _, _, rfl, rfl, SqL.of (s26 _ _ c3), atI_nat c4, _, rfl, c2, _, _, _, rfl, rfl, SqL.of (s26 _ _ c5), atI_nat c6, _, rfl, rfl, _, rfl, ite2 (fun e2 => ?_) (fun e2 => ?_)⟩
          · have e2 : b.takes t q g = b.duty i j g := by
              have := of_decide_eq_true e2
              injection this with this
              rw [get_taken ht hq, tk_pair n1] at this; omega
            refine ⟨_, rfl, _, rfl, (by show 2 ≤ sizeLine; decide), fun tp ntp => ?_⟩
            have s7 := same_new (o := .tup [nv i, nv j]) ntp
            refine ⟨_, rfl, _, rfl, _, _, b, (t, q), rfl, isBD.keep (s26.trans s7) hB2, ⟨td, rfl, s7 _ _ upd_same⟩, G, ⟨ht, hq, n1⟩, fun vh H8 s8 hU => ?_⟩
            obtain ⟨d, es, rfl, nd, hd, U⟩ := hU
            have s78 := s7.trans s8
            have htp : H8 tp = some (.tup ((key (i, j)).map kV)) := s8 _ _ upd_same
            have hfar : (b.far (t, q)).contains (i, j) = true ↔ (i, j) ∈ es.map (·.1) := by
              rw [List.contains_iff_mem, far_mem G ⟨ht, hq, n1⟩, U.keys]
            refine ⟨d, _, rfl, DGet.t hd htp, _, rfl, ite2 (fun e3 => ?_) (fun e3 => ?_)⟩
            · have hk : (i, j) ∈ es.map (·.1) := Classical.byContradiction fun z => by rw [enc_none z] at e3; simp at e3
              have hm : mvB b i j g t q = true := by
                unfold mvB
                rw [hfar.mpr hk, e2]; simp; omega
              have hD8 := s78 _ _ (s6 _ _ hD5)
              refine ⟨_, rfl, .inl ⟨rfl, _, SqL.of hD8⟩, _, rfl, D, ws', _, rfl, rfl, hD8, by rw [sizeLine_eq]; omega, ?_⟩
              refine ⟨_, _, ws' ++ [.ref td], rfl, fun b' o eb => ?_, upd_same, ?_, by rw [List.length_append, List.length_singleton]; omega⟩
              · rw [upd_ne (ne_of_none eb hD)]; exact s78 _ _ (s26 _ _ eb)
              · rw [mvRow_succ, hm, if_pos rfl, List.length_append, List.length_append, List.length_singleton, List.length_singleton, hl5]; omega
            · have hk : ¬ (i, j) ∈ es.map (·.1) := fun z => by
                obtain ⟨v', hv'⟩ := enc_there (f := nv) z
                rw [hv'] at e3; exact e3 rfl
              refine skip H8 s78 ?_
              unfold mvB
              have : (b.far (t, q)).contains (i, j) = false := by
                cases z : (b.far (t, q)).contains (i, j) with
                | false => rfl
                | true => exact absurd (hfar.mp z) hk
              rw [this]; simp
          · have e2 : ¬ b.takes t q g = b.duty i j g := fun z => e2 (by rw [get_taken ht hq, tk_pair n1, z]; simp)
            refine skip _ (fun _ _ e => e) ?_
            unfold mvB
            rw [show (b.takes t q g == b.duty i j g) = false by simpa using e2]; simp
        · have n1 : t = q := Classical.byContradiction fun z => e1 (by simp; omega)
          refine skip _ (fun _ _ e => e) ?_
          unfold mvB
          rw [n1]; simp
      · rintro σ H5 ⟨o9', o10', ws', rfl, s5, hD5, hl5, hb5⟩
        rw [Int.toNat_natCast] at hl5 hb5
        refine ⟨_, _, _, ws', rfl, s5, hD5, ?_, by omega⟩
        rw [mvTo_succ, List.length_append]; exact hl5
    · rintro σ H' ⟨o8, o9, o10, ws, rfl, s4, hD4, hl4, hb4⟩
      rw [Int.toNat_natCast] at hl4
      exact ⟨_, rfl, k D ws H' (s12.trans s4) hD4 (by rw [moved_len]; exact hl4)⟩
abbrev s_mf_moves : Stmt := top 78
theorem sc_mf_moves : FnScope ["pact", "i", "j", "g", "refusal"] ["pact", "i", "j", "g"] (defScope s_mf_moves) := ⟨rfl, rfl, rfl, by decide +kernel, rfl, by decide +kernel, by decide +kernel⟩
def sp_mf_moves (Cp : Addr) : Sp := fun vs H Q _ => ∃ v b i j g, vs = [v, nv i, nv j, nv g] ∧ isPact Cp H v b ∧ Good b ∧ ∀ v' H', Same H H' → isAns H' v' (ans b (.moves i j g)) → Q v' H'
theorem ok_mf_moves {f : Addr} {fd : FuncData} (F : Fun K "mf_moves" "mf_moves" s_mf_moves f fd) (T : Txt K mg Cp Cl) (C_refusal_of_duty : Callee P w K mg base "refusal_of_duty" 3 ["pact", "i", "j", "g"] (sp_refusal_of_duty Cp)) (C_moved_by : Callee P w K mg base "moved_by" 6 ["pact", "g", "i", "j"] (sp_moved_by Cp)) : FnOk P w K mg base CX0 7 f fd ["pact", "i", "j", "g"] (sp_mf_moves Cp) := by
  refine F.ok sc_mf_moves (fun vs H Q E h => ?_) (fun cdv A outer s H vs Q E hr h => ?_)
  · obtain ⟨v, b, i, j, g, rfl, _⟩ := h
    rfl
  · obtain ⟨v, b, i, j, g, rfl, hP, G, k⟩ := h
    refine ⟨_, (pss_cons (ps_set (i := 4) sc_mf_moves.nd rfl (Or.inl rfl) (pe_callC C_refusal_of_duty hr rfl (pa_cons (pv 0) (pa_cons (pv 1) (pa_cons (pv 2) (pa_cons (pv 3) pa_nil))))))
      (pss_cons (ps_if (pt_cmpR op_ne (pv 4) (pe_gi rfl T.g_NO_REFUSAL) (nomark _)) (pss_one (ps_ret (pe_lst (pa_cons (pv 4) pa_nil)))) pss_nil)
      (pss_one (ps_ret (pe_lst (pa_cons (pe_callB call_len_seq (by rfl) T.b_len PySem.boot_len (pa_cons (pe_callC C_moved_by hr rfl (pa_cons (pv 0) (pa_cons (pv 3) (pa_cons (pv 1) (pa_cons (pv 2) pa_nil))))) pa_nil)) pa_nil)))))), ?_⟩
    refine ⟨_, rfl, _, rfl, _, rfl, _, rfl, _, b, i, j, g, rfl, hP, ?_⟩
    refine ⟨_, rfl, rfl, _, rfl, ?_⟩
    rcases ref3_cases b i j g with ⟨h1, e⟩ | ⟨h1, h2, e⟩ | ⟨h1, h2, e, hi, hj, hg⟩
    · rw [e]
      refine ⟨_, rfl, (by show 1 ≤ sizeLine; decide), fun p hp => k _ _ (same_new hp) ?_⟩
      have e2 : ans b (.moves i j g) = [-2] := by unfold ans; simp only [act]; rw [if_pos h1]; rfl
      rw [e2]; exact ans_one hp
    · rw [e]
      refine ⟨_, rfl, (by show 1 ≤ sizeLine; decide), fun p hp => k _ _ (same_new hp) ?_⟩
      have e2 : ans b (.moves i j g) = [-22] := by unfold ans; simp only [act]; rw [if_neg h1, if_pos h2]; rfl
      rw [e2]; exact ans_one hp
    · rw [e]
      refine ⟨_, rfl, _, rfl, _, rfl, _, rfl, v, b, g, i, j, rfl, hP, G, ⟨hi, hj, h2⟩, hg, fun a ws H1 s1 ha hl => ?_⟩
      refine ⟨a, ws, rfl, .inl (SqL.of ha), (by show 1 ≤ sizeLine; decide), fun p hp => k _ _ (s1.trans (same_new hp)) ?_⟩
      have e2 : ans b (.moves i j g) = [((b.moved i j g).length : Int)] := by
        unfold ans
        simp only [act]
        rw [if_neg h1, if_neg h2]; rfl
      rw [e2, hl]; exact ans_one hp
end
end Mf

namespace Mf
open PySem PySem.Spec PyProof.Rows L2 Km482
def idleB (b : Book) (c : Nat) : Bool := (b.without c).each == b.each
def idleN (b : Book) (k : Nat) : List Nat := (List.range k).map fun c => if idleB b c = true then 1 else 0
theorem dec_nv {x y : Nat} : decide (V.int (x : Int) = V.int (y : Int)) = decide (x = y) := by
  rw [Bool.eq_iff_iff, decide_eq_true_iff, decide_eq_true_iff]
  constructor
  · intro h; injection h with h; omega
  · intro h; rw [h]
theorem tabs_at {H : Hp} {v : V} {b : Book} {g : Nat} (h : LstOf isRows H v ((List.range b.m).map (takenRows b))) (hg : g < b.m) : ∃ l0 lvs v1, v = .ref l0 ∧ H l0 = some (.lst lvs) ∧ lvs[g]? = some v1 ∧ isRows H v1 (takenRows b g) := by
  obtain ⟨l0, lvs, rfl, h0, p0⟩ := h
  have hrow : ((List.range b.m).map (takenRows b))[g]? = some (takenRows b g) := by
    rw [List.getElem?_map, range_get hg]; rfl
  obtain ⟨v1, e1, h1⟩ := pd_get' p0 hrow
  exact ⟨l0, lvs, v1, rfl, h0, e1, h1⟩
section
variable {P : Program} {w : World} {K : PySem.W.Frag} {mg : Str → Option Value} {base : Heap} {Cp Cl : Addr}
abbrev s_is_idle : Stmt := top 67
theorem sc_is_idle : FnScope ["pact", "takes", "c", "i", "j", "hung", "g"] ["pact", "takes", "c"] (defScope s_is_idle) := ⟨rfl, rfl, rfl, by decide +kernel, rfl, by decide +kernel, by decide +kernel⟩
def sp_is_idle (Cp : Addr) : Sp := fun vs H Q _ => ∃ v b vt c, vs = [v, vt, nv c] ∧ isPact Cp H v b ∧ Good b ∧ LstOf isRows H vt ((List.range b.m).map (takenRows b)) ∧ c < b.clauses.length ∧ ∀ H', Same H H' → Q (.bl (idleB b c)) H'
theorem ok_is_idle {f : Addr} {fd : FuncData} (F : Fun K "is_idle" "is_idle" s_is_idle f fd) (T : Txt K mg Cp Cl) (C_hangs_by : Callee P w K mg base "hangs_by" 1 ["bounds", "duty"] sp_hangs_by) (C_bounds_by_duty : Callee P w K mg base "bounds_by_duty" 5 ["pact"] (sp_bounds_by_duty Cp)) (C_without_clause : Callee P w K mg base "without_clause" 4 ["pact", "c"] (sp_without_clause Cp)) (C_least_laid : Callee P w K mg base "least_laid" 1 ["rows", "hung"] sp_least_laid) : FnOk P w K mg base CX0 6 f fd ["pact", "takes", "c"] (sp_is_idle Cp) := by
  refine F.ok sc_is_idle (fun vs H Q E h => ?_) (fun cdv A outer s H vs Q E hr h => ?_)
  · obtain ⟨v, b, vt, c, rfl, _⟩ := h
    rfl
  · obtain ⟨v, b, vt, c, rfl, hP, G, hT, hc, k⟩ := h
    refine ⟨_, (pss_cons (ps_set (i := 3) sc_is_idle.nd rfl (Or.inr rfl) (pe_ix ix_tup (pe_ix ix_list (pe_fld (pv 0) rfl) (pv 2) (fun _ _ => rfl)) pe_int (fun _ _ => rfl)))
      (pss_cons (ps_set (i := 4) sc_is_idle.nd rfl (Or.inr rfl) (pe_ix ix_tup (pe_ix ix_list (pe_fld (pv 0) rfl) (pv 2) (fun _ _ => rfl)) pe_int (fun _ _ => rfl)))
      (pss_cons (ps_set (i := 5) sc_is_idle.nd rfl (Or.inr rfl) (pe_callC C_hangs_by hr rfl (pa_cons (pe_callC C_bounds_by_duty hr rfl (pa_cons (pe_callC C_without_clause hr rfl (pa_cons (pv 0) (pa_cons (pv 2) pa_nil))) pa_nil)) (pa_cons (pe_tup (pa_cons (pv 3) (pa_cons (pv 4) pa_nil))) pa_nil))))
      (pss_one (ps_ret (pe_callB (cr_all rfl) (by rfl) T.b_all (by rfl) (pa_cons (pe_lc rfl sc_is_idle.nd (pi_range1 rfl T.b_range (pa_cons (pe_fld (pv 0) rfl) pa_nil)) (blkOk_by (own := [("g", 6)]) (by show blkC ["pact", "takes", "c", "i", "j", "hung", "g"] (defScope s_is_idle) _ _ = true; decide +kernel)) (fun _ _ _ _ _ => (pg_name (i := 6) sc_is_idle.nd rfl (Or.inl rfl))) (fun _ _ _ _ _ => pts_nil) (fun _ _ _ _ _ => (pe_cmpR op_eq (pe_callC C_least_laid hr rfl (pa_cons (pe_ix (ix_listK (K := K) rfl) (pe_fldK (K := K) rfl (pv 0) rfl) (pv 6) (fun _ _ => rfl)) (pa_cons (pv 5) pa_nil))) (pe_ix (ix_listK (K := K) rfl) (pe_ix (ix_listK (K := K) rfl) (pe_ix (ix_listK (K := K) rfl) (pv 1) (pv 6) (fun _ _ => rfl)) (pv 3) (fun _ _ => rfl)) (pv 4) (fun _ _ => rfl)) (nomark _)))) pa_nil))))))), ?_⟩
    have hP0 := hP
    obtain ⟨a, dx, fs, vl, vc, vu, rfl, ha, f1, f2, f3, f4, f5, r1, ⟨lc, cvs, rfl, hlc, hcs⟩, r3⟩ := hP0
    obtain ⟨cl, hcl⟩ : ∃ cl, b.clauses[c]? = some cl := ⟨_, List.getElem?_eq_getElem hc⟩
    obtain ⟨vcl, hv, t, rfl, ht⟩ := pd_get' hcs hcl
    have C := G.cok cl (List.mem_of_getElem? hcl)
    have hp : pairB b.n (cl.i, cl.j) := ⟨C.i, C.j, C.ij⟩
    have m3 := G.m3
    have G' := good_without G c
    refine ⟨_, rfl, a, Cp, dx, _, _, rfl, ha, T.cl_Pact, T.a_clauses, f4, _, rfl, lc, _, _, _, rfl, rfl, SqL.of hlc, atI_nat hv, t, _, _, _, rfl, rfl, SqT.of ht, atI_nat (j := 1) rfl, ?_⟩
    refine ⟨_, rfl, a, Cp, dx, _, _, rfl, ha, T.cl_Pact, T.a_clauses, f4, _, rfl, lc, _, _, _, rfl, rfl, SqL.of hlc, atI_nat hv, t, _, _, _, rfl, rfl, SqT.of ht, atI_nat (j := 2) rfl, ?_⟩
    refine ⟨_, rfl, _, rfl, _, b, c, rfl, hP, G, hc, fun v' H1 s1 hP1 => ?_⟩
    refine ⟨_, b.without c, rfl, hP1, G', fun vb H2 s2 hB => ?_⟩
    refine ⟨_, rfl, _, rfl, (by show 2 ≤ sizeLine; decide), fun tp ntp => ?_⟩
    have s3 := same_new (o := .tup [nv cl.i, nv cl.j]) ntp
    refine ⟨_, _, b.without c, (cl.i, cl.j), rfl, isBD.keep s3 hB, ⟨tp, rfl, upd_same⟩, G', hp, fun vh H3 s4 hU => ?_⟩
    obtain ⟨d, es, rfl, nd, hd, U⟩ := hU
    have s14 := ((s1.trans s2).trans s3).trans s4
    have e36 : es.length ≤ 36 := hung_len G' hp U.nd fun q hq => (U.keys q).mp hq
    have hin : ∀ e ∈ es, inB b.n e.1 := fun e he => (hangs_pairB G' hp ((U.keys e.1).mp (List.mem_map.mpr ⟨e, he, rfl⟩))).inB
    have e0 : 0 < es.length := by
      have : (cl.i, cl.j) ∈ es.map (·.1) := (U.keys _).mpr (hangs.refl _ _)
      have := List.length_pos_of_mem this
      rw [List.length_map] at this; exact this
    refine ⟨_, rfl, a, Cp, dx, _, _, rfl, s14 _ _ ha, T.cl_Pact, T.a_goods, f2, (b.m : Int), rfl, by omega, by omega, fun D hD => lc_range (fun g H' => Same H3 H' ∧ H' D = some (.lst (((List.range g).map fun g => decide ((b.without c).takes cl.i cl.j g = b.takes cl.i cl.j g)).map V.bl))) ?_ ?_ ?_⟩
    · exact ⟨same_new hD, upd_same⟩
    · rintro g H' hg ⟨s5, hD'⟩
      have eg : (0 + (g : Int)) = (g : Int) := by omega
      rw [eg]
      have hg : g < b.m := by omega
      have s15 := s14.trans s5
      obtain ⟨l0, lvs, v1, rfl, q0, q1, q2⟩ := laid_rows r1 hg
      have sh : Shape b.n (laidRows b g) := rows_shape _ _
      refine ⟨rfl, _, rfl, a, Cp, dx, _, _, rfl, s15 _ _ ha, T.cl_Pact, T.a_laid, f3, _, rfl, l0, _, _, _, rfl, rfl, SqL.of (s15 _ _ q0), atI_nat q1, _, rfl, _, d, laidRows b g, b.n, es, rfl, st_Rows (Cl := Cl) _ _ _ _ (Keep.of s15) q2, sh, s5 _ _ hd, e0, e36, hin, fun m H4 hm1 hm2 s6 => ?_⟩
      have gl : ∀ e ∈ es, get2 (laidRows b g) e.1.1 e.1.2 = (b.without c).duty e.1.1 e.1.2 g := fun e he => get_laid (hin e he).1 (hin e he).2
      have em : m = (b.without c).takes cl.i cl.j g := takes_low G' hp U (by obtain ⟨e, he, z⟩ := hm1; exact ⟨e, he, by rw [← gl e he]; exact z⟩) (fun e he => by rw [← gl e he]; exact hm2 e he)
      have s16 := s15.trans s6
      obtain ⟨t0, tvs, tv, rfl, z0, z1, z2⟩ := tabs_at hT hg
      obtain ⟨c0, dvs, c2, cr, rfl, c3, c4, c5, c6, _⟩ := rows_at z2 (rows_shape b.n fun i j => tk b i j g) C.i C.j
      refine ⟨_, rfl, _, rfl, t0, _, _, _, rfl, rfl, SqL.of (s16 _ _ z0), atI_nat z1, _, rfl, c0, _, _, _, rfl, rfl, SqL.of (s16 _ _ c3), atI_nat c4, _, rfl, c2, _, _, _, rfl, rfl, SqL.of (s16 _ _ c5), atI_nat c6, rfl, ?_⟩
      refine ⟨_, s6 _ _ hD', by rw [List.length_map, List.length_map, List.length_range, sizeLine_eq]; omega, fun b' o eb => ?_, ?_⟩
      · rw [upd_ne (ne_of_none eb hD)]; exact s6 _ _ (s5 _ _ eb)
      · have e2 : get2 (takenRows b g) cl.i cl.j = b.takes cl.i cl.j g := by rw [get_taken C.i C.j, tk_pair C.ij]
        rw [upd_same, List.range_succ, List.map_append, List.map_append, dec_nv, em, e2]; rfl
    · rintro H' ⟨s5, hD'⟩
      rw [Int.toNat_natCast] at hD'
      refine ⟨D, _, rfl, SqL.of hD', ?_⟩
      have eb : ((List.range b.m).map fun g => decide ((b.without c).takes cl.i cl.j g = b.takes cl.i cl.j g)).all id = idleB b c := by
        unfold idleB
        rw [idle_iff G hcl, Bool.eq_iff_iff, List.all_eq_true, decide_eq_true_iff]
        constructor
        · intro h g hg
          exact of_decide_eq_true (h _ (List.mem_map.mpr ⟨g, List.mem_range.mpr hg, rfl⟩))
        · intro h x hx
          obtain ⟨g, hg, rfl⟩ := List.mem_map.mp hx
          exact decide_eq_true (h g (List.mem_range.mp hg))
      rw [eb]
      exact k _ (s14.trans s5)
abbrev s_idle_clauses : Stmt := top 68
theorem sc_idle_clauses : FnScope ["pact", "takes", "c"] ["pact"] (defScope s_idle_clauses) := ⟨rfl, rfl, rfl, by decide +kernel, rfl, by decide +kernel, by decide +kernel⟩
def sp_idle_clauses (Cp : Addr) : Sp := fun vs H Q _ => ∃ v b, vs = [v] ∧ isPact Cp H v b ∧ Good b ∧ ∀ a H', Same H H' → H' a = some (.lst ((idleN b b.clauses.length).map nv)) → Q (.ref a) H'
theorem ok_idle_clauses {f : Addr} {fd : FuncData} (F : Fun K "idle_clauses" "idle_clauses" s_idle_clauses f fd) (T : Txt K mg Cp Cl) (C_taken_of_all : Callee P w K mg base "taken_of_all" 6 ["pact"] (sp_taken_of_all Cp)) (C_is_idle : Callee P w K mg base "is_idle" 6 ["pact", "takes", "c"] (sp_is_idle Cp)) : FnOk P w K mg base CX0 7 f fd ["pact"] (sp_idle_clauses Cp) := by
  refine F.ok sc_idle_clauses (fun vs H Q E h => ?_) (fun cdv A outer s H vs Q E hr h => ?_)
  · obtain ⟨v, b, rfl, _⟩ := h
    rfl
  · obtain ⟨v, b, rfl, hP, G, k⟩ := h
    refine ⟨_, (pss_cons (ps_set (i := 1) sc_idle_clauses.nd rfl (Or.inr rfl) (pe_callC C_taken_of_all hr rfl (pa_cons (pv 0) pa_nil)))
      (pss_one (ps_ret (pe_lc rfl sc_idle_clauses.nd (pi_range1 rfl T.b_range (pa_cons (pe_callB call_len_seq (by rfl) T.b_len PySem.boot_len (pa_cons (pe_fld (pv 0) rfl) pa_nil)) pa_nil)) (blkOk_by (own := [("c", 2)]) (by show blkC ["pact", "takes", "c"] (defScope s_idle_clauses) _ _ = true; decide +kernel)) (fun _ _ _ _ _ => (pg_name (i := 2) sc_idle_clauses.nd rfl (Or.inl rfl))) (fun _ _ _ _ _ => pts_nil) (fun _ _ _ _ _ => (pe_ifExp (pt_val (pe_callC C_is_idle hr rfl (pa_cons (pv 0) (pa_cons (pv 1) (pa_cons (pv 2) pa_nil))))) pe_int pe_int)))))), ?_⟩
    have hP0 := hP
    obtain ⟨a, dx, fs, vl, vc, vu, rfl, ha, f1, f2, f3, f4, f5, r1, ⟨lc, cvs, rfl, hlc, hcs⟩, r3⟩ := hP0
    have hlen := pd_len hcs
    have c16 := G.cl
    refine ⟨_, rfl, _, b, rfl, hP, G, fun vt H1 s1 hT => ?_⟩
    refine ⟨_, rfl, a, Cp, dx, _, _, rfl, s1 _ _ ha, T.cl_Pact, T.a_clauses, f4, lc, _, rfl, .inl (SqL.of (s1 _ _ hlc)), ?_⟩
    refine ⟨_, rfl, by omega, by omega, fun D hD => lc_range (fun c H' => Same H1 H' ∧ H' D = some (.lst ((idleN b c).map nv))) ?_ ?_ ?_⟩
    · exact ⟨same_new hD, upd_same⟩
    · rintro c H' hc ⟨s2, hD'⟩
      have ec : (0 + (c : Int)) = (c : Int) := by omega
      rw [ec]
      have hc : c < b.clauses.length := by omega
      have fin : ∀ H2 x, Same H' H2 → x = (if idleB b c = true then 1 else 0) → ∃ acc, H2 D = some (.lst acc) ∧ acc.length < sizeLine ∧ Same H1 (upd H2 D (.lst (acc ++ [nv x]))) ∧ (upd H2 D (.lst (acc ++ [nv x]))) D = some (.lst ((idleN b (c + 1)).map nv)) := fun H2 x s3 hx => by
        refine ⟨_, s3 _ _ hD', by unfold idleN; rw [List.length_map, List.length_map, List.length_range, sizeLine_eq]; omega, fun b' o eb => ?_, ?_⟩
        · rw [upd_ne (ne_of_none eb hD)]; exact s3 _ _ (s2 _ _ eb)
        · unfold idleN
          rw [upd_same, List.range_succ, List.map_append, List.map_append, hx]; rfl
      refine ⟨rfl, _, rfl, _, rfl, _, rfl, _, b, vt, c, rfl, st_Pact T.ne _ _ _ _ (Keep.of (s1.trans s2)) hP, G, st_Lst st_Rows (Cl := Cl) _ _ _ _ (Keep.of s2) hT, hc, fun H2 s3 => ⟨_, rfl, ite2 (fun e => ?_) (fun e => ?_)⟩⟩
      · exact fin H2 1 s3 (by rw [if_pos e])
      · exact fin H2 0 s3 (by rw [if_neg e])
    · rintro H' ⟨s2, hD'⟩
      rw [Int.toNat_natCast, hlen] at hD'
      exact k D H' (s1.trans s2) hD'
theorem idle_list (b : Book) : b.idle.map (fun x => if x = true then 1 else 0) = idleN b b.clauses.length := by
  unfold Book.idle idleN
  simp only [List.map_map]
  rfl
theorem sum_ones : ∀ l : List Bool, Km482.sum (l.map fun x => if x = true then 1 else 0) = (l.filter fun x => x).length := by
  have : ∀ (l : List Bool) (a : Nat), (l.map fun x => if x = true then 1 else 0).foldl (· + ·) a = a + (l.filter fun x => x).length := by
    intro l
    induction l with
    | nil => intro a; simp
    | cons x l ih =>
      intro a
      rw [List.map_cons, List.foldl_cons, ih]
      cases x with
      | true => rw [List.filter_cons_of_pos rfl, List.length_cons, if_pos rfl]; omega
      | false => rw [List.filter_cons_of_neg (by decide), if_neg (by decide)]; omega
  intro l
  unfold Km482.sum
  rw [this]; omega
abbrev s_mf_idle : Stmt := top 81
theorem sc_mf_idle : FnScope ["pact", "idle"] ["pact"] (defScope s_mf_idle) := ⟨rfl, rfl, rfl, by decide +kernel, rfl, by decide +kernel, by decide +kernel⟩
def sp_mf_idle (Cp : Addr) : Sp := fun vs H Q _ => ∃ v b, vs = [v] ∧ isPact Cp H v b ∧ Good b ∧ ∀ v' H', Same H H' → isAns H' v' (ans b .idle) → Q v' H'
theorem ok_mf_idle {f : Addr} {fd : FuncData} (F : Fun K "mf_idle" "mf_idle" s_mf_idle f fd) (T : Txt K mg Cp Cl) (C_idle_clauses : Callee P w K mg base "idle_clauses" 7 ["pact"] (sp_idle_clauses Cp)) : FnOk P w K mg base CX0 8 f fd ["pact"] (sp_mf_idle Cp) := by
  refine F.ok sc_mf_idle (fun vs H Q E h => ?_) (fun cdv A outer s H vs Q E hr h => ?_)
  · obtain ⟨v, b, rfl, _⟩ := h
    rfl
  · obtain ⟨v, b, rfl, hP, G, k⟩ := h
    refine ⟨_, (pss_cons (ps_set (i := 1) sc_mf_idle.nd rfl (Or.inl rfl) (pe_callC C_idle_clauses hr rfl (pa_cons (pv 0) pa_nil)))
      (pss_one (ps_ret (pe_op op_cat (pe_op op_cat (pe_lst (pa_cons (pe_callB (cr_sum rfl) (by rfl) T.b_sum (by rfl) (pa_cons (pv 1) pa_nil)) pa_nil)) (pv 1)) (pe_op op_rep (pe_lst (pa_cons pe_int pa_nil)) (pe_op op_sub (pe_gi rfl T.g_MOST_CLAUSES) (pe_callB call_len_seq (by rfl) T.b_len PySem.boot_len (pa_cons (pv 1) pa_nil)))))))), ?_⟩
    have c16 := G.cl
    refine ⟨_, rfl, _, b, rfl, hP, G, fun c H1 s1 a5 => ?_⟩
    have a4 : (idleN b b.clauses.length).length = b.clauses.length := by unfold idleN; rw [List.length_map, List.length_range]
    generalize hr' : idleN b b.clauses.length = r at a5 a4
    have hc2 : H1 c = some (.lst ((r.map fun (x : Nat) => (x : Int)).map V.int)) := by rw [a5, map_nv_int]
    refine ⟨_, rfl, c, _, rfl, SqL.of hc2, (by show 1 ≤ sizeLine; decide), fun l1 n1 => ?_⟩
    refine ⟨_, rfl, l1, c, _, _, rfl, rfl, upd_same, same_new n1 _ _ hc2, ?_, fun l2 n2 => ?_⟩
    · rw [List.length_map, List.length_map, a4, List.length_singleton, sizeLine_eq]; omega
    have s2 := (same_new (o := .lst [V.int (r.map fun (x : Nat) => (x : Int)).sum]) n1).trans (same_new (o := .lst ([V.int (r.map fun (x : Nat) => (x : Int)).sum] ++ (r.map fun (x : Nat) => (x : Int)).map V.int)) n2)
    refine ⟨(by show 1 ≤ sizeLine; decide), fun l3 n3 => ?_⟩
    refine ⟨_, rfl, c, _, rfl, .inl (SqL.of (same_new n3 _ _ (s2 _ _ hc2))), _, _, rfl, rfl, ?_⟩
    rw [List.length_map, List.length_map, a4]
    refine ⟨l3, (16 : Int) - (b.clauses.length : Int), [V.int 0], rfl, rfl, upd_same, by omega, by omega, ?_, fun l4 n4 => ?_⟩
    · rw [List.length_singleton, sizeLine_eq]; omega
    refine ⟨l2, l4, _, _, rfl, rfl, same_new n4 _ _ (same_new n3 _ _ upd_same), upd_same, ?_, fun l5 n5 => ?_⟩
    · rw [len_rep, List.length_singleton, List.length_append, List.length_singleton, List.length_map, List.length_map, a4, sizeLine_eq]; omega
    refine k _ _ (((s1.trans s2).trans ((same_new n3).trans (same_new n4))).trans (same_new n5)) ⟨l5, rfl, ?_⟩
    rw [upd_same]
    have e5 : ((16 : Int) - (b.clauses.length : Int)).toNat = 16 - b.clauses.length := by omega
    rw [e5, flat_zero]
    have e6 : ans b .idle = ((Km482.sum r : Nat) : Int) :: Km482Neutral.nums (r ++ List.replicate (16 - b.clauses.length) 0) := by
      unfold ans
      simp only [act]
      show (((b.idle.filter fun x => x).length : Nat) : Int) :: Km482Neutral.nums (Km482.fill CLAUSES (b.idle.map fun x => if x = true then 1 else 0)) = _
      rw [← sum_ones, idle_list, hr']
      unfold Km482.fill
      rw [a4, List.take_of_length_le (by rw [a4]; exact c16)]
      rfl
    rw [e6, sum_cast]
    unfold Km482Neutral.nums
    rw [List.map_cons, List.map_map, List.map_map, List.map_append]
    rfl
end
end Mf

namespace Mf
open PySem PySem.Spec PyProof.Rows L2 Km482
/-! ### the ledger -/
def lf (vp vq vu : V) : List (Str × V) := [("pact", vp), ("past", vq), ("undone", vu)]
theorem lf_eq (x1 x2 x3 : V) : putF "undone" x3 (putF "past" x2 (putF "pact" x1 [])) = lf x1 x2 x3 := by with_unfolding_all rfl
theorem lf_pact (x x1 x2 x3 : V) : putF "pact" x (lf x1 x2 x3) = lf x x2 x3 := by with_unfolding_all rfl
theorem lf_past (x x1 x2 x3 : V) : putF "past" x (lf x1 x2 x3) = lf x1 x x3 := by with_unfolding_all rfl
theorem lf_undone (x x1 x2 x3 : V) : putF "undone" x (lf x1 x2 x3) = lf x1 x2 x := by with_unfolding_all rfl
theorem lf_few (x1 x2 x3 : V) : (lf x1 x2 x3).length < 1000 := by show 3 < 1000; decide
/-- the heap but the ledger's two lists -/
def off (H : Hp) (pa ua : Addr) : Hp := era (era H pa) ua
theorem off_some {H : Hp} {pa ua b : Addr} {o : HO} (h : off H pa ua b = some o) : b ≠ pa ∧ b ≠ ua ∧ H b = some o := by
  obtain ⟨h1, h2⟩ := era_some h
  obtain ⟨h3, h4⟩ := era_some h2
  exact ⟨h3, h1, h4⟩
theorem off_of {H : Hp} {pa ua b : Addr} {o : HO} (h : H b = some o) (h1 : b ≠ pa) (h2 : b ≠ ua) : off H pa ua b = some o := by
  unfold off
  rw [era_ne h2, era_ne h1]; exact h
theorem off_same (H : Hp) (pa ua : Addr) : Same (off H pa ua) H := fun b o e => (off_some e).2.2
/-- what the ledger's fields hold -/
def Holds (Cp : Addr) (H : Hp) (vp : V) (pvs uvs : List V) : Km482Neutral.S → Prop
  | none => vp = .non ∧ pvs = [] ∧ uvs = []
  | some d => isPact Cp H vp d.now ∧ Paired (isPact Cp H) pvs d.past.reverse ∧ Paired (isPact Cp H) uvs d.future.reverse
theorem Holds.keep {Cp Cl : Addr} (ne : Cp ≠ Cl) {H H' : Hp} {vp : V} {pvs uvs : List V} {s : Km482Neutral.S} (k : Keep Cl H H') (h : Holds Cp H vp pvs uvs s) : Holds Cp H' vp pvs uvs s := by
  cases s with
  | none => exact h
  | some d => exact ⟨st_Pact ne _ _ _ _ k h.1, Paired.mono (fun v b => st_Pact ne _ _ _ _ k) h.2.1, Paired.mono (fun v b => st_Pact ne _ _ _ _ k) h.2.2⟩
def Led (Cp Cl : Addr) (H : Hp) (a pa ua : Addr) (s : Km482Neutral.S) : Prop := ∃ dx vp pvs uvs, H a = some (.ins Cl dx (lf vp (.ref pa) (.ref ua))) ∧ H pa = some (.lst pvs) ∧ H ua = some (.lst uvs) ∧ pa ≠ ua ∧ Holds Cp (off H pa ua) vp pvs uvs s
/-- all but the ledger and its lists is as it was -/
def Rest (H H' : Hp) (a pa ua : Addr) : Prop := ∀ b o, H b = some o → b ≠ a → b ≠ pa → b ≠ ua → H' b = some o
theorem Rest.of {H H' : Hp} {a pa ua : Addr} (s : Same H H') : Rest H H' a pa ua := fun b o e _ _ _ => s b o e
def Next (Cp Cl : Addr) (H H' : Hp) (a pa ua : Addr) (s : Km482Neutral.S) : Prop := ∃ pa' ua', Led Cp Cl H' a pa' ua' s ∧ (pa' = pa ∨ H pa' = none) ∧ (ua' = ua ∨ H ua' = none) ∧ Rest H H' a pa ua
section
variable {P : Program} {w : World} {K : PySem.W.Frag} {mg : Str → Option Value} {base : Heap} {Cp Cl : Addr}
theorem Led.same (ne : Cp ≠ Cl) {H H' : Hp} {a pa ua : Addr} {s : Km482Neutral.S} (k : Same H H') (h : Led Cp Cl H a pa ua s) : Led Cp Cl H' a pa ua s := by
  obtain ⟨dx, vp, pvs, uvs, h1, h2, h3, h4, h5⟩ := h
  refine ⟨dx, vp, pvs, uvs, k _ _ h1, k _ _ h2, k _ _ h3, h4, h5.keep ne (Cl := Cl) (Keep.of fun b o e => ?_)⟩
  obtain ⟨e1, e2, e3⟩ := off_some e
  exact off_of (k _ _ e3) e1 e2
/-- the same after a Same first -/
theorem Next.pre {H H1 H' : Hp} {a pa ua : Addr} {s : Km482Neutral.S} (k : Same H H1) (h : Next Cp Cl H1 H' a pa ua s) : Next Cp Cl H H' a pa ua s := by
  obtain ⟨pa', ua', h1, h2, h3, h4⟩ := h
  refine ⟨pa', ua', h1, h2.imp_right fun z => k.free z, h3.imp_right fun z => k.free z, fun b o e n1 n2 n3 => h4 b o (k _ _ e) n1 n2 n3⟩
theorem Next.post (ne : Cp ≠ Cl) {H H1 H' : Hp} {a pa ua : Addr} {s : Km482Neutral.S} (k : Same H1 H') (h : Next Cp Cl H H1 a pa ua s) : Next Cp Cl H H' a pa ua s := by
  obtain ⟨pa', ua', h1, h2, h3, h4⟩ := h
  exact ⟨pa', ua', h1.same ne k, h2, h3, fun b o e n1 n2 n3 => k _ _ (h4 b o e n1 n2 n3)⟩
theorem Next.stay (ne : Cp ≠ Cl) {H H' : Hp} {a pa ua : Addr} {s : Km482Neutral.S} (k : Same H H') (h : Led Cp Cl H a pa ua s) : Next Cp Cl H H' a pa ua s :=
  ⟨pa, ua, h.same ne k, .inl rfl, .inl rfl, Rest.of k⟩
abbrev s_Ledger_init : Stmt := inClass (top 60) 0
theorem sc_Ledger_init : FnScope ["self"] ["self"] (defScope s_Ledger_init) := ⟨rfl, rfl, rfl, by decide +kernel, rfl, by decide +kernel, by decide +kernel⟩
def sp_Ledger_init (Cp Cl : Addr) : Sp := fun vs H Q _ => ∃ p dx, vs = [.ref p] ∧ H p = some (.ins Cl dx []) ∧ ∀ H' pa ua, (∀ b o, H b = some o → b ≠ p → H' b = some o) → H pa = none → H ua = none → Led Cp Cl H' p pa ua none → Q .non H'
theorem ok_Ledger_init {f : Addr} {fd : FuncData} (F : Fun K "__init__" "Ledger.__init__" s_Ledger_init f fd) (T : Txt K mg Cp Cl) : FnOk P w K mg base CX0 1 f fd ["self"] (sp_Ledger_init Cp Cl) := by
  refine F.ok sc_Ledger_init (fun vs H Q E h => ?_) (fun cdv A outer s H vs Q E hr h => ?_)
  · obtain ⟨p, dx, rfl, _⟩ := h
    rfl
  · obtain ⟨p, dx, rfl, hp, k⟩ := h
    refine ⟨_, (pss_cons (ps_fld (pv 0) pe_non rfl) (pss_cons (ps_fld (pv 0) (pe_lst pa_nil) rfl) (pss_one (ps_fld (pv 0) (pe_lst pa_nil) rfl)))), ?_⟩
    refine ⟨_, rfl, p, Cl, dx, [], rfl, hp, T.cl_Ledger, T.a_pact, (by decide), ?_⟩
    refine ⟨Nat.zero_le _, fun pa npa => ?_⟩
    have pp : pa ≠ p := fun z => by rw [z, upd_same] at npa; cases npa
    refine ⟨_, rfl, p, Cl, dx, _, rfl, (by rw [upd_ne pp.symm]; exact upd_same), T.cl_Ledger, T.a_past, Nat.lt_of_le_of_lt (fewP (Nat.le_refl 0)) (by decide), ?_⟩
    refine ⟨Nat.zero_le _, fun ua nua => ?_⟩
    have up : ua ≠ p := fun z => by rw [z, upd_same] at nua; cases nua
    refine ⟨_, rfl, p, Cl, dx, _, rfl, (by rw [upd_ne up.symm]; exact upd_same), T.cl_Ledger, T.a_undone, Nat.lt_of_le_of_lt (fewP (fewP (Nat.le_refl 0))) (by decide), ?_⟩
    rw [lf_eq]
    rw [upd_ne pp] at npa
    rw [upd_ne up] at nua
    have apu : pa ≠ ua := fun z => by rw [← z, upd_same] at nua; cases nua
    rw [upd_ne apu.symm, upd_ne up] at nua
    refine k _ pa ua (fun b o e nb => ?_) npa nua ⟨dx, _, [], [], upd_same, ?_, ?_, apu, ⟨rfl, rfl, rfl⟩⟩
    · rw [upd_ne nb, upd_ne (ne_of_none e nua), upd_ne nb, upd_ne (ne_of_none e npa), upd_ne nb]; exact e
    · rw [upd_ne pp, upd_ne apu, upd_ne pp, upd_same]
    · rw [upd_ne up, upd_same]
abbrev s_Ledger_begin : Stmt := inClass (top 60) 1
theorem sc_Ledger_begin : FnScope ["self", "pact"] ["self", "pact"] (defScope s_Ledger_begin) := ⟨rfl, rfl, rfl, by decide +kernel, rfl, by decide +kernel, by decide +kernel⟩
def sp_Ledger_begin (Cp Cl : Addr) : Sp := fun vs H Q _ => ∃ a pa ua s v b, vs = [.ref a, v] ∧ Led Cp Cl H a pa ua s ∧ isPact Cp H v b ∧ ∀ H', Next Cp Cl H H' a pa ua (some ⟨b, [], []⟩) → Q .non H'
theorem ok_Ledger_begin {f : Addr} {fd : FuncData} (F : Fun K "begin" "Ledger.begin" s_Ledger_begin f fd) (T : Txt K mg Cp Cl) : FnOk P w K mg base CX0 1 f fd ["self", "pact"] (sp_Ledger_begin Cp Cl) := by
  refine F.ok sc_Ledger_begin (fun vs H Q E h => ?_) (fun cdv A outer s H vs Q E hr h => ?_)
  · obtain ⟨a, pa, ua, s, v, b, rfl, _⟩ := h
    rfl
  · obtain ⟨a, pa, ua, s, v, b, rfl, ⟨dx, vp, pvs, uvs, ha, hpa, hua, npu, hh⟩, hP, k⟩ := h
    refine ⟨_, (pss_cons (ps_fld (pv 0) (pv 1) rfl) (pss_cons (ps_fld (pv 0) (pe_lst pa_nil) rfl) (pss_one (ps_fld (pv 0) (pe_lst pa_nil) rfl)))), ?_⟩
    refine ⟨_, rfl, _, rfl, a, Cl, dx, _, rfl, ha, T.cl_Ledger, T.a_pact, lf_few _ _ _, ?_⟩
    rw [lf_pact]
    refine ⟨Nat.zero_le _, fun p1 n1 => ?_⟩
    have pp : p1 ≠ a := fun z => by rw [z, upd_same] at n1; cases n1
    rw [upd_ne pp] at n1
    refine ⟨_, rfl, a, Cl, dx, _, rfl, (by rw [upd_ne pp.symm]; exact upd_same), T.cl_Ledger, T.a_past, lf_few _ _ _, ?_⟩
    rw [lf_past]
    refine ⟨Nat.zero_le _, fun u1 n2 => ?_⟩
    have up : u1 ≠ a := fun z => by rw [z, upd_same] at n2; cases n2
    have apu : p1 ≠ u1 := fun z => by rw [← z, upd_ne pp, upd_same] at n2; cases n2
    rw [upd_ne up, upd_ne apu.symm, upd_ne up] at n2
    refine ⟨_, rfl, a, Cl, dx, _, rfl, (by rw [upd_ne up.symm]; exact upd_same), T.cl_Ledger, T.a_undone, lf_few _ _ _, ?_⟩
    rw [lf_undone]
    refine k _ ⟨p1, u1, ⟨dx, v, [], [], upd_same, ?_, ?_, apu, ?_⟩, .inr n1, .inr n2, fun b' o e nb _ _ => ?_⟩
    · rw [upd_ne pp, upd_ne apu, upd_ne pp, upd_same]
    · rw [upd_ne up, upd_same]
    · refine ⟨st_Pact T.ne _ _ _ _ (fun b' o e no => ?_) hP, .nil, .nil⟩
      have nb : b' ≠ a := fun z => by rw [z, ha] at e; exact no _ _ (Option.some.inj e).symm
      refine off_of ?_ (ne_of_none e n1) (ne_of_none e n2)
      rw [upd_ne nb, upd_ne (ne_of_none e n2), upd_ne nb, upd_ne (ne_of_none e n1), upd_ne nb]; exact e
    · rw [upd_ne nb, upd_ne (ne_of_none e n2), upd_ne nb, upd_ne (ne_of_none e n1), upd_ne nb]; exact e
abbrev s_Ledger_change_to : Stmt := inClass (top 60) 2
theorem sc_Ledger_change_to : FnScope ["self", "pact", "past"] ["self", "pact"] (defScope s_Ledger_change_to) := ⟨rfl, rfl, rfl, by decide +kernel, rfl, by decide +kernel, by decide +kernel⟩
def sp_Ledger_change_to (Cp Cl : Addr) : Sp := fun vs H Q _ => ∃ a pa ua d v b, vs = [.ref a, v] ∧ Led Cp Cl H a pa ua (some d) ∧ d.past.length ≤ 20 ∧ isPact Cp H v b ∧ ∀ H', Next Cp Cl H H' a pa ua (some (d.become b)) → Keep Cl H H' → Q .non H'
theorem cut_last (xs : List V) : cutV xs (some (-20)) none = xs.drop (xs.length - 20) := by
  unfold cutV
  have e : HT.sIx xs.length 0 (some (-20)) = xs.length - 20 := by
    show (if (-20 : Int) < 0 then ((-20 : Int) + (xs.length : Int)).toNat else min (-20 : Int).toNat xs.length) = _
    rw [if_pos (by decide)]; omega
  rw [HT.sIx_none, e]
  exact List.take_of_length_le (by rw [List.length_drop]; exact Nat.le_refl _)
theorem ok_Ledger_change_to {f : Addr} {fd : FuncData} (F : Fun K "change_to" "Ledger.change_to" s_Ledger_change_to f fd) (T : Txt K mg Cp Cl) : FnOk P w K mg base CX0 1 f fd ["self", "pact"] (sp_Ledger_change_to Cp Cl) := by
  refine F.ok sc_Ledger_change_to (fun vs H Q E h => ?_) (fun cdv A outer s H vs Q E hr h => ?_)
  · obtain ⟨a, pa, ua, d, v, b, rfl, _⟩ := h
    rfl
  · obtain ⟨a, pa, ua, d, v, b, rfl, ⟨dx, vp, pvs, uvs, ha, hpa, hua, npu, hh⟩, d20, hP, k⟩ := h
    refine ⟨_, (pss_cons (ps_set (i := 2) sc_Ledger_change_to.nd rfl (Or.inl rfl) (pe_op op_cat (pe_fld (pv 0) rfl) (pe_lst (pa_cons (pe_fld (pv 0) rfl) pa_nil))))
      (pss_cons (ps_fld (pv 0) (pe_slice sl_list (pv 2) (po_some (pe_un un_neg (pe_gi rfl T.g_MOST_TAKEN_BACK))) po_none) rfl)
      (pss_cons (ps_fld (pv 0) (pe_lst pa_nil) rfl)
      (pss_one (ps_fld (pv 0) (pv 1) rfl))))), ?_⟩
    obtain ⟨h1, h2, h3⟩ := hh
    have hl := pd_len h2
    rw [List.length_reverse] at hl
    refine ⟨_, rfl, a, Cl, dx, _, _, rfl, ha, T.cl_Ledger, T.a_past, rfl, _, rfl, a, Cl, dx, _, _, rfl, ha, T.cl_Ledger, T.a_pact, rfl, (by show 1 ≤ sizeLine; decide), fun l1 n1 => ?_⟩
    have s1 := same_new (o := .lst [vp]) n1
    refine ⟨pa, l1, _, _, rfl, rfl, s1 _ _ hpa, upd_same, by rw [List.length_singleton, sizeLine_eq]; omega, fun l2 n2 => ?_⟩
    have s2 := s1.trans (same_new (o := .lst (pvs ++ [vp])) n2)
    refine ⟨_, rfl, _, rfl, _, rfl, l2, _, rfl, SqL.of upd_same, fun p1 n3 => ?_⟩
    have ecut : cutV (pvs ++ [vp]) (some (-20)) none = (pvs ++ [vp]).drop (pvs.length - 19) := by
      rw [cut_last, List.length_append, List.length_singleton]; congr 1
    show (fun (z : List V) => _) (cutV (pvs ++ [vp]) (some (-20)) none)
    rw [ecut]
    have s3 := s2.trans (same_new (o := .lst ((pvs ++ [vp]).drop (pvs.length - 19))) n3)
    have ha3 := s3 _ _ ha
    have n3' := s2.free n3
    refine ⟨_, rfl, a, Cl, dx, _, rfl, ha3, T.cl_Ledger, T.a_past, lf_few _ _ _, ?_⟩
    rw [lf_past]
    refine ⟨Nat.zero_le _, fun u1 n4 => ?_⟩
    have pp : p1 ≠ a := ne_of_none ha n3' |>.symm
    have up : u1 ≠ a := fun z => by rw [z, upd_same] at n4; cases n4
    rw [upd_ne up] at n4
    have apu : p1 ≠ u1 := fun z => by rw [← z, upd_same] at n4; cases n4
    have n4' := s3.free n4
    refine ⟨_, rfl, a, Cl, dx, _, rfl, (by rw [upd_ne up.symm]; exact upd_same), T.cl_Ledger, T.a_undone, lf_few _ _ _, ?_⟩
    rw [lf_undone]
    refine ⟨_, rfl, _, rfl, a, Cl, dx, _, rfl, upd_same, T.cl_Ledger, T.a_pact, lf_few _ _ _, ?_⟩
    rw [lf_pact]
    have rest : ∀ b' o, H b' = some o → b' ≠ a → (upd (upd (upd (upd (upd (upd (upd H l1 (.lst [vp])) l2 (.lst (pvs ++ [vp]))) p1 (.lst ((pvs ++ [vp]).drop (pvs.length - 19)))) a (.ins Cl dx (lf vp (.ref p1) (.ref ua)))) u1 (.lst [])) a (.ins Cl dx (lf vp (.ref p1) (.ref u1)))) a (.ins Cl dx (lf v (.ref p1) (.ref u1)))) b' = some o := fun b' o e nb => by
      rw [upd_ne nb, upd_ne nb, upd_ne (ne_of_none e n4'), upd_ne nb]; exact s3 _ _ e
    have kp : Keep Cl H (off (upd (upd (upd (upd (upd (upd (upd H l1 (.lst [vp])) l2 (.lst (pvs ++ [vp]))) p1 (.lst ((pvs ++ [vp]).drop (pvs.length - 19)))) a (.ins Cl dx (lf vp (.ref p1) (.ref ua)))) u1 (.lst [])) a (.ins Cl dx (lf vp (.ref p1) (.ref u1)))) a (.ins Cl dx (lf v (.ref p1) (.ref u1)))) p1 u1) := fun b' o e no => by
      have nb : b' ≠ a := fun z => by rw [z, ha] at e; exact no _ _ (Option.some.inj e).symm
      exact off_of (rest b' o e nb) (ne_of_none e n3') (ne_of_none e n4')
    have kp0 : Keep Cl (off H pa ua) _ := (Keep.of (Cl := Cl) (off_same H pa ua)).trans kp
    refine k _ ⟨p1, u1, ⟨dx, v, (pvs ++ [vp]).drop (pvs.length - 19), [], upd_same, ?_, ?_, apu, ?_⟩, .inr n3', .inr n4', fun b' o e nb _ _ => rest b' o e nb⟩ (fun b' o e no => rest b' o e (fun z => by rw [z, ha] at e; exact no _ _ (Option.some.inj e).symm))
    · rw [upd_ne pp, upd_ne pp, upd_ne apu, upd_ne pp]; exact upd_same
    · rw [upd_ne up, upd_ne up, upd_same]
    · refine ⟨st_Pact T.ne _ _ _ _ kp hP, ?_, .nil⟩
      show Paired _ _ ((d.now :: d.past).take 20).reverse
      rw [List.reverse_take, List.reverse_cons, List.length_cons]
      have e1 : d.past.length + 1 - 20 = pvs.length - 19 := by omega
      rw [e1]
      exact pd_drop (Paired.mono (fun v x => st_Pact T.ne _ _ _ _ kp0) (Paired.snoc h2 h1)) _
abbrev s_Ledger_take_back : Stmt := inClass (top 60) 3
theorem sc_Ledger_take_back : FnScope ["self"] ["self"] (defScope s_Ledger_take_back) := ⟨rfl, rfl, rfl, by decide +kernel, rfl, by decide +kernel, by decide +kernel⟩
def sp_Ledger_take_back (Cp Cl : Addr) : Sp := fun vs H Q _ => ∃ a pa ua d k r, vs = [.ref a] ∧ Led Cp Cl H a pa ua (some d) ∧ d.past = k :: r ∧ d.future.length ≤ 20 ∧ ∀ H', Next Cp Cl H H' a pa ua (some ⟨k, r, d.now :: d.future⟩) → Q .non H'
theorem ok_Ledger_take_back {f : Addr} {fd : FuncData} (F : Fun K "take_back" "Ledger.take_back" s_Ledger_take_back f fd) (T : Txt K mg Cp Cl) : FnOk P w K mg base CX0 1 f fd ["self"] (sp_Ledger_take_back Cp Cl) := by
  refine F.ok sc_Ledger_take_back (fun vs H Q E h => ?_) (fun cdv A outer s H vs Q E hr h => ?_)
  · obtain ⟨a, pa, ua, d, k, r, rfl, _⟩ := h
    rfl
  · obtain ⟨a, pa, ua, d, kb, r, rfl, ⟨dx, vp, pvs, uvs, ha, hpa, hua, npu, h1, h2, h3⟩, ed, d20, k⟩ := h
    refine ⟨_, (pss_cons (ps_expr (pe_bm PySem.F.plainAttrs_list PySem.F.slot_list_append PySem.F.type_list_append mt_append (pe_fld (pv 0) rfl) (pa_cons (pe_fld (pv 0) rfl) pa_nil)))
      (pss_one (ps_fld (pv 0) (pe_bm0 PySem.F.plainAttrs_list PySem.F.slot_list_pop PySem.F.type_list_pop mt_pop (pe_fld (pv 0) rfl)) rfl))), ?_⟩
    have hl := pd_len h3
    rw [List.length_reverse] at hl
    have aua : a ≠ ua := ne_of ha hua (by intro z; cases z)
    have apa : a ≠ pa := ne_of ha hpa (by intro z; cases z)
    rw [ed, List.reverse_cons] at h2
    have lp := pd_len h2
    rw [List.length_append, List.length_singleton] at lp
    obtain ⟨vk, hvk, hk⟩ := pd_get' (i := r.reverse.length) (y := kb) h2 (by rw [List.getElem?_append_right (Nat.le_refl _), Nat.sub_self]; rfl)
    have ei : pvs.length - 1 = r.reverse.length := by omega
    refine ⟨_, rfl, a, Cl, dx, _, _, rfl, ha, T.cl_Ledger, T.a_undone, rfl, .inl ⟨rfl, _, SqL.of hua⟩, _, rfl, a, Cl, dx, _, _, rfl, ha, T.cl_Ledger, T.a_pact, rfl, ua, uvs, _, rfl, rfl, hua, by rw [sizeLine_eq]; omega, ?_⟩
    have ha1 : (upd H ua (.lst (uvs ++ [vp]))) a = some (.ins Cl dx (lf vp (.ref pa) (.ref ua))) := by rw [upd_ne aua]; exact ha
    have hpa1 : (upd H ua (.lst (uvs ++ [vp]))) pa = some (.lst pvs) := by rw [upd_ne npu]; exact hpa
    refine ⟨_, rfl, a, Cl, dx, _, _, rfl, ha1, T.cl_Ledger, T.a_past, rfl, .inl ⟨rfl, _, SqL.of hpa1⟩, pa, pvs, vk, rfl, rfl, hpa1, by rw [ei]; exact hvk, ?_⟩
    have ha2 : (upd (upd H ua (.lst (uvs ++ [vp]))) pa (.lst pvs.dropLast)) a = some (.ins Cl dx (lf vp (.ref pa) (.ref ua))) := by rw [upd_ne apa]; exact ha1
    refine ⟨_, rfl, a, Cl, dx, _, rfl, ha2, T.cl_Ledger, T.a_pact, lf_few _ _ _, ?_⟩
    rw [lf_pact]
    have rest : Rest H (upd (upd (upd H ua (.lst (uvs ++ [vp]))) pa (.lst pvs.dropLast)) a (.ins Cl dx (lf vk (.ref pa) (.ref ua)))) a pa ua := fun b' o e n1 n2 n3 => by
      rw [upd_ne n1, upd_ne n2, upd_ne n3]; exact e
    have kp : Keep Cl (off H pa ua) (off (upd (upd (upd H ua (.lst (uvs ++ [vp]))) pa (.lst pvs.dropLast)) a (.ins Cl dx (lf vk (.ref pa) (.ref ua)))) pa ua) := fun b' o e no => by
      obtain ⟨e1, e2, e3⟩ := off_some e
      have nb : b' ≠ a := fun z => by rw [z, ha] at e3; exact no _ _ (Option.some.inj e3).symm
      exact off_of (rest b' o e3 nb e1 e2) e1 e2
    refine k _ ⟨pa, ua, ⟨dx, vk, pvs.dropLast, uvs ++ [vp], upd_same, ?_, ?_, npu, ?_⟩, .inl rfl, .inl rfl, rest⟩
    · rw [upd_ne apa.symm]; exact upd_same
    · rw [upd_ne aua.symm, upd_ne npu.symm]; exact upd_same
    · refine ⟨st_Pact T.ne _ _ _ _ kp hk, ?_, ?_⟩
      · refine Paired.mono (fun v x => st_Pact T.ne _ _ _ _ kp) ?_
        have := pd_take h2 r.reverse.length
        rw [List.take_left] at this
        rw [List.dropLast_eq_take, ei]; exact this
      · show Paired _ _ (d.now :: d.future).reverse
        rw [List.reverse_cons]
        exact Paired.mono (fun v x => st_Pact T.ne _ _ _ _ kp) (Paired.snoc h3 h1)
abbrev s_Ledger_do_again : Stmt := inClass (top 60) 4
theorem sc_Ledger_do_again : FnScope ["self"] ["self"] (defScope s_Ledger_do_again) := ⟨rfl, rfl, rfl, by decide +kernel, rfl, by decide +kernel, by decide +kernel⟩
def sp_Ledger_do_again (Cp Cl : Addr) : Sp := fun vs H Q _ => ∃ a pa ua d k r, vs = [.ref a] ∧ Led Cp Cl H a pa ua (some d) ∧ d.future = k :: r ∧ d.past.length + d.future.length ≤ 20 ∧ ∀ H', Next Cp Cl H H' a pa ua (some ⟨k, (d.now :: d.past).take PAST, r⟩) → Q .non H'
theorem ok_Ledger_do_again {f : Addr} {fd : FuncData} (F : Fun K "do_again" "Ledger.do_again" s_Ledger_do_again f fd) (T : Txt K mg Cp Cl) : FnOk P w K mg base CX0 1 f fd ["self"] (sp_Ledger_do_again Cp Cl) := by
  refine F.ok sc_Ledger_do_again (fun vs H Q E h => ?_) (fun cdv A outer s H vs Q E hr h => ?_)
  · obtain ⟨a, pa, ua, d, k, r, rfl, _⟩ := h
    rfl
  · obtain ⟨a, pa, ua, d, kb, r, rfl, ⟨dx, vp, pvs, uvs, ha, hpa, hua, npu, h1, h2, h3⟩, ed, d20, k⟩ := h
    refine ⟨_, (pss_cons (ps_expr (pe_bm PySem.F.plainAttrs_list PySem.F.slot_list_append PySem.F.type_list_append mt_append (pe_fld (pv 0) rfl) (pa_cons (pe_fld (pv 0) rfl) pa_nil)))
      (pss_one (ps_fld (pv 0) (pe_bm0 PySem.F.plainAttrs_list PySem.F.slot_list_pop PySem.F.type_list_pop mt_pop (pe_fld (pv 0) rfl)) rfl))), ?_⟩
    have hl := pd_len h2
    rw [List.length_reverse] at hl
    have aua : a ≠ ua := ne_of ha hua (by intro z; cases z)
    have apa : a ≠ pa := ne_of ha hpa (by intro z; cases z)
    rw [ed, List.length_cons] at d20
    rw [ed, List.reverse_cons] at h3
    have lp := pd_len h3
    rw [List.length_append, List.length_singleton] at lp
    obtain ⟨vk, hvk, hk⟩ := pd_get' (i := r.reverse.length) (y := kb) h3 (by rw [List.getElem?_append_right (Nat.le_refl _), Nat.sub_self]; rfl)
    have ei : uvs.length - 1 = r.reverse.length := by omega
    refine ⟨_, rfl, a, Cl, dx, _, _, rfl, ha, T.cl_Ledger, T.a_past, rfl, .inl ⟨rfl, _, SqL.of hpa⟩, _, rfl, a, Cl, dx, _, _, rfl, ha, T.cl_Ledger, T.a_pact, rfl, pa, pvs, _, rfl, rfl, hpa, by rw [sizeLine_eq]; omega, ?_⟩
    have ha1 : (upd H pa (.lst (pvs ++ [vp]))) a = some (.ins Cl dx (lf vp (.ref pa) (.ref ua))) := by rw [upd_ne apa]; exact ha
    have hua1 : (upd H pa (.lst (pvs ++ [vp]))) ua = some (.lst uvs) := by rw [upd_ne npu.symm]; exact hua
    refine ⟨_, rfl, a, Cl, dx, _, _, rfl, ha1, T.cl_Ledger, T.a_undone, rfl, .inl ⟨rfl, _, SqL.of hua1⟩, ua, uvs, vk, rfl, rfl, hua1, by rw [ei]; exact hvk, ?_⟩
    have ha2 : (upd (upd H pa (.lst (pvs ++ [vp]))) ua (.lst uvs.dropLast)) a = some (.ins Cl dx (lf vp (.ref pa) (.ref ua))) := by rw [upd_ne aua]; exact ha1
    refine ⟨_, rfl, a, Cl, dx, _, rfl, ha2, T.cl_Ledger, T.a_pact, lf_few _ _ _, ?_⟩
    rw [lf_pact]
    have rest : Rest H (upd (upd (upd H pa (.lst (pvs ++ [vp]))) ua (.lst uvs.dropLast)) a (.ins Cl dx (lf vk (.ref pa) (.ref ua)))) a pa ua := fun b' o e n1 n2 n3 => by
      rw [upd_ne n1, upd_ne n3, upd_ne n2]; exact e
    have kp : Keep Cl (off H pa ua) (off (upd (upd (upd H pa (.lst (pvs ++ [vp]))) ua (.lst uvs.dropLast)) a (.ins Cl dx (lf vk (.ref pa) (.ref ua)))) pa ua) := fun b' o e no => by
      obtain ⟨e1, e2, e3⟩ := off_some e
      have nb : b' ≠ a := fun z => by rw [z, ha] at e3; exact no _ _ (Option.some.inj e3).symm
      exact off_of (rest b' o e3 nb e1 e2) e1 e2
    refine k _ ⟨pa, ua, ⟨dx, vk, pvs ++ [vp], uvs.dropLast, upd_same, ?_, ?_, npu, ?_⟩, .inl rfl, .inl rfl, rest⟩
    · rw [upd_ne apa.symm, upd_ne npu]; exact upd_same
    · rw [upd_ne aua.symm]; exact upd_same
    · refine ⟨st_Pact T.ne _ _ _ _ kp hk, ?_, ?_⟩
      · show Paired _ _ ((d.now :: d.past).take 20).reverse
        rw [List.take_of_length_le (by rw [List.length_cons]; omega), List.reverse_cons]
        exact Paired.mono (fun v x => st_Pact T.ne _ _ _ _ kp) (Paired.snoc h2 h1)
      · refine Paired.mono (fun v x => st_Pact T.ne _ _ _ _ kp) ?_
        have := pd_take h3 r.reverse.length
        rw [List.take_left] at this
        rw [List.dropLast_eq_take, ei]; exact this
end
end Mf

namespace Mf
open PySem PySem.Spec PyProof.Rows L2 Km482
def Done (Cp Cl : Addr) (H H' : Hp) (a pa ua : Addr) (r : Desk × Ans) (v : V) : Prop := Next Cp Cl H H' a pa ua (some r.1) ∧ isAns H' v (Km482Neutral.told r.2)
section
variable {P : Program} {w : World} {K : PySem.W.Frag} {mg : Str → Option Value} {base : Heap} {Cp Cl : Addr}
theorem done_no (ne : Cp ≠ Cl) {H H1 : Hp} {a pa ua p : Addr} {d : Desk} {z : Int} {r : Desk × Ans} (L : Led Cp Cl H a pa ua (some d)) (s : Same H H1) (hp : H1 p = none) (e : r = (d, only z)) : Done Cp Cl H (upd H1 p (.lst [.int z])) a pa ua r (.ref p) := by
  subst e
  exact ⟨Next.stay ne (s.trans (same_new hp)) L, ans_one hp⟩
theorem done_one (ne : Cp ≠ Cl) {H H1 : Hp} {a pa ua p : Addr} {d : Desk} {z : Int} {r : Desk × Ans} (N : Next Cp Cl H H1 a pa ua (some d)) (hp : H1 p = none) (e : r = (d, only z)) : Done Cp Cl H (upd H1 p (.lst [.int z])) a pa ua r (.ref p) := by
  subst e
  exact ⟨N.post ne (same_new hp), ans_one hp⟩
/-! ### mf_start -/
def startS (s : Km482Neutral.S) (n m : Nat) : Km482Neutral.S := if n < 2 ∨ STATES < n ∨ m = 0 ∨ GOODS < m then s else some ⟨book0 n m, [], []⟩
def startA (n m : Nat) : List Int := if n < 2 ∨ STATES < n ∨ m = 0 ∨ GOODS < m then [-22] else [0]
abbrev s_mf_start : Stmt := top 43
theorem sc_mf_start : FnScope ["ledger", "n", "m"] ["ledger", "n", "m"] (defScope s_mf_start) := ⟨rfl, rfl, rfl, by decide +kernel, rfl, by decide +kernel, by decide +kernel⟩
def sp_mf_start (Cp Cl : Addr) : Sp := fun vs H Q _ => ∃ a pa ua s n m, vs = [.ref a, nv n, nv m] ∧ Led Cp Cl H a pa ua s ∧ ∀ v' H', Next Cp Cl H H' a pa ua (startS s n m) → isAns H' v' (startA n m) → Q v' H'
theorem ok_mf_start {f : Addr} {fd : FuncData} (F : Fun K "mf_start" "mf_start" s_mf_start f fd) (T : Txt K mg Cp Cl) (C_Ledger_begin : CalleeM P w K mg base Cl "begin" 1 ["self", "pact"] (sp_Ledger_begin Cp Cl)) (C_new_pact : Callee P w K mg base "new_pact" 3 ["states", "goods"] (sp_new_pact Cp)) : FnOk P w K mg base CX0 4 f fd ["ledger", "n", "m"] (sp_mf_start Cp Cl) := by
  refine F.ok sc_mf_start (fun vs H Q E h => ?_) (fun cdv A outer s H vs Q E hr h => ?_)
  · obtain ⟨a, pa, ua, s, n, m, rfl, _⟩ := h
    rfl
  · obtain ⟨a, pa, ua, s, n, m, rfl, L, k⟩ := h
    refine ⟨_, (pss_cons (ps_if (PW.pt (pw_or (pt_cmpR op_lt (pv 1) (pe_gi rfl T.g_FEWEST_STATES) (nomark _)) (pw_or (pt_cmpR op_gt (pv 1) (pe_gi rfl T.g_MOST_STATES) (nomark _)) (pw_or (pt_cmpR op_lt (pv 2) (pe_gi rfl T.g_FEWEST_GOODS) (nomark _)) (pw_or1 (pt_cmpR op_gt (pv 2) (pe_gi rfl T.g_MOST_GOODS) (nomark _))))))) (pss_one (ps_ret (pe_lst (pa_cons (pe_gi rfl T.g_UNFIT) pa_nil)))) pss_nil)
      (pss_cons (ps_expr (pe_methC (pv 0) T.cl_Ledger C_Ledger_begin hr (pa_cons (pe_callC C_new_pact hr rfl (pa_cons (pv 1) (pa_cons (pv 2) pa_nil))) pa_nil)))
      (pss_one (ps_ret (pe_lst (pa_cons pe_int pa_nil)))))), ?_⟩
    have L0 := L
    obtain ⟨dx, vp, pvs, uvs, ha, hpa, hua, npu, hh⟩ := L0
    have no : (n < 2 ∨ STATES < n ∨ m = 0 ∨ GOODS < m) → 1 ≤ sizeLine ∧ ∀ p, H p = none → Q (.ref p) (upd H p (.lst [.int (-22)])) := fun z =>
      ⟨(by decide), fun p hp => k _ _ (by unfold startS; rw [if_pos z]; exact Next.stay T.ne (same_new hp) L) (by unfold startA; rw [if_pos z]; exact ans_one hp)⟩
    refine ⟨_, rfl, _, _, rfl, rfl, _, rfl, ite2 (fun e => ?_) (fun e => ?_)⟩
    · exact no (.inl (by have := of_decide_eq_true e; omega))
    have e1 : ¬ (n : Int) < 2 := fun z => e (decide_eq_true z)
    refine ⟨_, rfl, _, _, rfl, rfl, _, rfl, ite2 (fun e => ?_) (fun e => ?_)⟩
    · exact no (.inr (.inl (by have := of_decide_eq_true e; show 6 < n; omega)))
    have e2 : ¬ (n : Int) > 6 := fun z => e (decide_eq_true z)
    refine ⟨_, rfl, _, _, rfl, rfl, _, rfl, ite2 (fun e => ?_) (fun e => ?_)⟩
    · exact no (.inr (.inr (.inl (by have := of_decide_eq_true e; omega))))
    have e3 : ¬ (m : Int) < 1 := fun z => e (decide_eq_true z)
    refine ⟨_, rfl, _, _, rfl, rfl, _, rfl, ite2 (fun e => ?_) (fun e => ?_)⟩
    · exact no (.inr (.inr (.inr (by have := of_decide_eq_true e; show 3 < m; omega))))
    have e4 : ¬ (m : Int) > 3 := fun z => e (decide_eq_true z)
    have yes : ¬ (n < 2 ∨ STATES < n ∨ m = 0 ∨ GOODS < m) := by
      show ¬ (n < 2 ∨ 6 < n ∨ m = 0 ∨ 3 < m); omega
    refine ⟨_, rfl, a, dx, _, rfl, ha, rfl, _, rfl, _, rfl, n, m, rfl, by omega, by omega, fun v' H1 s1 hP => ?_⟩
    refine ⟨a, pa, ua, s, v', book0 n m, rfl, L.same T.ne s1, hP, fun H2 N => ?_⟩
    refine ⟨(by show 1 ≤ sizeLine; decide), fun p hp => k _ _ ?_ ?_⟩
    · unfold startS; rw [if_neg yes]; exact (N.pre s1).post T.ne (same_new hp)
    · unfold startA; rw [if_neg yes]; exact ans_one hp
/-! ### mf_duty -/
abbrev s_mf_duty : Stmt := top 44
theorem sc_mf_duty : FnScope ["ledger", "i", "j", "g", "x", "pact", "refusal"] ["ledger", "i", "j", "g", "x"] (defScope s_mf_duty) := ⟨rfl, rfl, rfl, by decide +kernel, rfl, by decide +kernel, by decide +kernel⟩
def sp_mf_duty (Cp Cl : Addr) : Sp := fun vs H Q _ => ∃ a pa ua d i j g x, vs = [.ref a, nv i, nv j, nv g, nv x] ∧ Led Cp Cl H a pa ua (some d) ∧ GoodD d ∧ ∀ v' H', Done Cp Cl H H' a pa ua (act d (.duty i j g x)) v' → Q v' H'
theorem ok_mf_duty {f : Addr} {fd : FuncData} (F : Fun K "mf_duty" "mf_duty" s_mf_duty f fd) (T : Txt K mg Cp Cl) (C_refusal_of_laying : Callee P w K mg base "refusal_of_laying" 4 ["pact", "i", "j", "g", "x"] (sp_refusal_of_laying Cp)) (C_Ledger_change_to : CalleeM P w K mg base Cl "change_to" 1 ["self", "pact"] (sp_Ledger_change_to Cp Cl)) (C_with_duty : Callee P w K mg base "with_duty" 4 ["pact", "i", "j", "g", "x"] (sp_with_duty Cp)) : FnOk P w K mg base CX0 5 f fd ["ledger", "i", "j", "g", "x"] (sp_mf_duty Cp Cl) := by
  refine F.ok sc_mf_duty (fun vs H Q E h => ?_) (fun cdv A outer s H vs Q E hr h => ?_)
  · obtain ⟨a, pa, ua, d, i, j, g, x, rfl, _⟩ := h
    rfl
  · obtain ⟨a, pa, ua, d, i, j, g, x, rfl, L, G, k⟩ := h
    refine ⟨_, (pss_cons (ps_set (i := 5) sc_mf_duty.nd rfl (Or.inl rfl) (pe_fld (pv 0) rfl))
      (pss_cons (ps_set (i := 6) sc_mf_duty.nd rfl (Or.inl rfl) (pe_callC C_refusal_of_laying hr rfl (pa_cons (pv 5) (pa_cons (pv 1) (pa_cons (pv 2) (pa_cons (pv 3) (pa_cons (pv 4) pa_nil)))))))
      (pss_cons (ps_if (pt_cmpR op_ne (pv 6) (pe_gi rfl T.g_NO_REFUSAL) (nomark _)) (pss_one (ps_ret (pe_lst (pa_cons (pv 6) pa_nil)))) pss_nil)
      (pss_cons (ps_expr (pe_methC (pv 0) T.cl_Ledger C_Ledger_change_to hr (pa_cons (pe_callC C_with_duty hr rfl (pa_cons (pv 5) (pa_cons (pv 1) (pa_cons (pv 2) (pa_cons (pv 3) (pa_cons (pv 4) pa_nil)))))) pa_nil)))
      (pss_one (ps_ret (pe_lst (pa_cons (pe_ix ix_list (pe_ix ix_list (pe_ix ix_list (pe_fld (pv 5) rfl) (pv 3) (fun _ _ => rfl)) (pv 1) (fun _ _ => rfl)) (pv 2) (fun _ _ => rfl)) pa_nil)))))))), ?_⟩
    have L0 := L
    obtain ⟨dx, vp, pvs, uvs, ha, hpa, hua, npu, h1', h2', h3'⟩ := L0
    have hP := st_Pact T.ne _ _ _ _ (Keep.of (Cl := Cl) (off_same H pa ua)) h1'
    refine ⟨_, rfl, a, Cl, dx, _, _, rfl, ha, T.cl_Ledger, T.a_pact, rfl, ?_⟩
    refine ⟨_, rfl, _, rfl, _, rfl, _, rfl, _, rfl, _, d.now, i, j, g, x, rfl, hP, ?_⟩
    refine ⟨_, rfl, rfl, _, rfl, ?_⟩
    rcases ref4_cases d.now i j g x with ⟨h1, e⟩ | ⟨h1, h2, e⟩ | ⟨h1, h2, e, hi, hj, hg⟩
    · rw [e]
      exact ⟨_, rfl, (by show 1 ≤ sizeLine; decide), fun p hp => k _ _ (done_no T.ne L (fun _ _ z => z) hp (by simp only [act]; rw [if_pos h1]))⟩
    · rw [e]
      exact ⟨_, rfl, (by show 1 ≤ sizeLine; decide), fun p hp => k _ _ (done_no T.ne L (fun _ _ z => z) hp (by simp only [act]; rw [if_neg h1, if_pos h2]))⟩
    · rw [e]
      refine ⟨_, rfl, a, dx, _, rfl, ha, rfl, _, rfl, _, rfl, _, rfl, _, rfl, _, rfl, _, d.now, i, j, g, x, rfl, hP, G.now, hi, hj, hg, fun v' H1 s1 hP1 => ?_⟩
      have few := G.few
      refine ⟨a, pa, ua, d, v', _, rfl, L.same T.ne s1, by omega, hP1, fun H2 N kp => ?_⟩
      have hP2 := st_Pact T.ne _ _ _ _ ((Keep.of s1).trans kp) hP
      obtain ⟨a2, dx2, fs2, vl, vc, vu, rfl, ha2, f1, f2, f3, f4, f5, r1, r2, r3⟩ := hP2
      obtain ⟨l0, lvs, l1, rvs, l2, rfl, q0, q1, q2, q3, q4, q5⟩ := laid_at r1 hi hj hg
      refine ⟨_, rfl, a2, Cp, dx2, _, _, rfl, ha2, T.cl_Pact, T.a_laid, f3, _, rfl, l0, _, _, _, rfl, rfl, SqL.of q0, atI_nat q1, _, rfl, l1, _, _, _, rfl, rfl, SqL.of q2, atI_nat q3, _, rfl, l2, _, _, _, rfl, rfl, SqL.of q4, atI_nat q5, (by show 1 ≤ sizeLine; decide), fun p hp => k _ _ (done_one T.ne (N.pre s1) hp ?_)⟩
      simp only [act]; rw [if_neg h1, if_neg h2]; rfl
/-! ### clauses -/
def cD (c : Clause) : PyData := .tuple [.int c.kind, .int c.i, .int c.j, .int c.k]
theorem dp_clause {H : Hp} {v : V} {c : Clause} (h : isClause H v c) : Dp K H v (cD c) := by
  obtain ⟨a, rfl, h⟩ := h
  exact .tup (SqT.of h) (.cons (.int _) (.cons (.int _) (.cons (.int _) (.cons (.int _) .nil))))
theorem eqv_clause (p q : Clause) : PyData.eqv (cD p) (cD q) = decide (p = q) := by
  show (((p.kind : Int) == (q.kind : Int)) && (((p.i : Int) == (q.i : Int)) && (((p.j : Int) == (q.j : Int)) && (((p.k : Int) == (q.k : Int)) && true)))) = _
  rw [Bool.eq_iff_iff]
  simp only [Bool.and_eq_true, beq_iff_eq, decide_eq_true_eq, and_true]
  constructor
  · rintro ⟨h1, h2, h3, h4⟩
    cases p; cases q
    simp only [Clause.mk.injEq] at *
    omega
  · intro h; subst h; exact ⟨rfl, rfl, rfl, rfl⟩
theorem in_clauses (l : List Clause) (q : Clause) : (l.map cD).any (fun z => PyData.eqv z (cD q)) = l.contains q := by
  rw [List.any_map, Bool.eq_iff_iff, List.any_eq_true, List.contains_iff_mem]
  constructor
  · rintro ⟨x, hx, e⟩
    have e : PyData.eqv (cD x) (cD q) = true := e
    rw [eqv_clause, decide_eq_true_iff] at e
    rw [← e]; exact hx
  · intro h
    exact ⟨q, h, by show PyData.eqv (cD q) (cD q) = true; rw [eqv_clause]; simp⟩
theorem lay_cD (p : Clause) : (cD p).canLay0 = true := rfl
theorem deep_cD (p : Clause) : (cD p).depth ≤ 9 := by show (1 : Nat) ≤ 9; decide
theorem shaped_cD (p : Clause) : SeqAt.shaped (cD p) = true := rfl
abbrev s_add_clause : Stmt := top 49
theorem sc_add_clause : FnScope ["ledger", "clause", "pact"] ["ledger", "clause"] (defScope s_add_clause) := ⟨rfl, rfl, rfl, by decide +kernel, rfl, by decide +kernel, by decide +kernel⟩
def sp_add_clause (Cp Cl : Addr) : Sp := fun vs H Q _ => ∃ a pa ua d vc c, vs = [.ref a, vc] ∧ Led Cp Cl H a pa ua (some d) ∧ GoodD d ∧ isClause H vc c ∧ ∀ v' H', Done Cp Cl H H' a pa ua (d.add c) v' → Q v' H'
theorem ok_add_clause {f : Addr} {fd : FuncData} (F : Fun K "add_clause" "add_clause" s_add_clause f fd) (T : Txt K mg Cp Cl) (C_Ledger_change_to : CalleeM P w K mg base Cl "change_to" 1 ["self", "pact"] (sp_Ledger_change_to Cp Cl)) (C_with_clauses : Callee P w K mg base "with_clauses" 3 ["pact", "clauses"] (sp_with_clauses Cp)) : FnOk P w K mg base CX0 4 f fd ["ledger", "clause"] (sp_add_clause Cp Cl) := by
  refine F.ok sc_add_clause (fun vs H Q E h => ?_) (fun cdv A outer s H vs Q E hr h => ?_)
  · obtain ⟨a, pa, ua, d, vc, c, rfl, _⟩ := h
    rfl
  · obtain ⟨a, pa, ua, d, vcl, c, rfl, L, G, hc, k⟩ := h
    have hu64 := hu100 hr
    refine ⟨_, (pss_cons (ps_set (i := 2) sc_add_clause.nd rfl (Or.inl rfl) (pe_fld (pv 0) rfl))
      (pss_cons (ps_if (pt_cmpR (op_inD hu64) (pv 1) (pe_fld (pv 2) rfl) (by with_unfolding_all rfl)) (pss_one (ps_ret (pe_lst (pa_cons (pe_gi rfl T.g_THERE_ALREADY) pa_nil)))) pss_nil)
      (pss_cons (ps_if (pt_cmpR op_eq (pe_callB call_len_seq (by rfl) T.b_len PySem.boot_len (pa_cons (pe_fld (pv 2) rfl) pa_nil)) (pe_gi rfl T.g_MOST_CLAUSES) (nomark _)) (pss_one (ps_ret (pe_lst (pa_cons (pe_gi rfl T.g_FULL) pa_nil)))) pss_nil)
      (pss_cons (ps_expr (pe_methC (pv 0) T.cl_Ledger C_Ledger_change_to hr (pa_cons (pe_callC C_with_clauses hr rfl (pa_cons (pv 2) (pa_cons (pe_op op_cat (pe_fld (pv 2) rfl) (pe_lst (pa_cons (pv 1) pa_nil))) pa_nil))) pa_nil)))
      (pss_one (ps_ret (pe_lst (pa_cons (pe_callB call_len_seq (by rfl) T.b_len PySem.boot_len (pa_cons (pe_fld (pv 2) rfl) pa_nil)) pa_nil)))))))), ?_⟩
    have L0 := L
    obtain ⟨dx, vp, pvs, uvs, ha, hpa, hua, npu, h1', h2', h3'⟩ := L0
    have hP := st_Pact T.ne _ _ _ _ (Keep.of (Cl := Cl) (off_same H pa ua)) h1'
    have hP0 := hP
    obtain ⟨a2, dx2, fs2, vl, vc, vu, rfl, ha2, f1, f2, f3, f4, f5, r1, ⟨lc, cvs, rfl, hlc, hcs⟩, r3⟩ := hP0
    have hlen := pd_len hcs
    have c16 := G.now.cl
    refine ⟨_, rfl, a, Cl, dx, _, _, rfl, ha, T.cl_Ledger, T.a_pact, rfl, ?_⟩
    refine ⟨_, rfl, _, rfl, a2, Cp, dx2, _, _, rfl, ha2, T.cl_Pact, T.a_clauses, f4, _, _, dp_clause hc, dp_lst (fun _ _ => dp_clause) ⟨lc, cvs, rfl, hlc, hcs⟩, shaped_cD _, shaped_list lay_cD deep_cD _, _, rfl, ?_⟩
    show if (d.now.clauses.map cD).any (fun z => PyData.eqv z (cD c)) = true then _ else _
    rw [in_clauses]
    refine ite2 (fun e => ?_) (fun e => ?_)
    · exact ⟨(by show 1 ≤ sizeLine; decide), fun p hp => k _ _ (done_no T.ne L (fun _ _ z => z) hp (by unfold Desk.add; rw [if_pos e]))⟩
    refine ⟨_, rfl, a2, Cp, dx2, _, _, rfl, ha2, T.cl_Pact, T.a_clauses, f4, lc, _, rfl, .inl (SqL.of hlc), rfl, _, rfl, ite2 (fun e2 => ?_) (fun e2 => ?_)⟩
    · have e2 := of_decide_eq_true e2
      injection e2 with e2
      exact ⟨(by show 1 ≤ sizeLine; decide), fun p hp => k _ _ (done_no T.ne L (fun _ _ z => z) hp (by unfold Desk.add; rw [if_neg e, if_pos (by show 16 ≤ _; omega)]))⟩
    have e2 : ¬ CLAUSES ≤ d.now.clauses.length := fun z => e2 (decide_eq_true (by have z : 16 ≤ d.now.clauses.length := z; congr 1; omega))
    refine ⟨_, rfl, a, dx, _, rfl, ha, rfl, _, rfl, _, rfl, a2, Cp, dx2, _, _, rfl, ha2, T.cl_Pact, T.a_clauses, f4, _, rfl, (by show 1 ≤ sizeLine; decide), fun l1 n1 => ?_⟩
    have s1 := same_new (o := .lst [vcl]) n1
    refine ⟨lc, l1, _, _, rfl, rfl, s1 _ _ hlc, upd_same, by rw [List.length_singleton, sizeLine_eq]; omega, fun l2 n2 => ?_⟩
    have s2 := s1.trans (same_new (o := .lst (cvs ++ [vcl])) n2)
    refine ⟨_, d.now, _, d.now.clauses ++ [c], rfl, st_Pact T.ne _ _ _ _ (Keep.of s2) hP, ⟨l2, _, rfl, upd_same, Paired.mono (fun v x h => st_Clause (Cl := Cl) _ _ _ _ (Keep.of s2) h) (Paired.snoc hcs hc)⟩, fun v' H3 s3 hP3 => ?_⟩
    have s23 := s2.trans s3
    have few := G.few
    refine ⟨a, pa, ua, d, v', _, rfl, L.same T.ne s23, by omega, hP3, fun H4 N kp => ?_⟩
    have kk := (Keep.of (Cl := Cl) s23).trans kp
    refine ⟨_, rfl, a2, Cp, dx2, _, _, rfl, kk _ _ ha2 (fun _ _ z => by injection z with z; exact T.ne z), T.cl_Pact, T.a_clauses, f4, lc, _, rfl, .inl (SqL.of (kk _ _ hlc (fun _ _ z => by cases z))), (by show 1 ≤ sizeLine; decide), fun p hp => k _ _ (done_one T.ne (N.pre s23) hp ?_)⟩
    unfold Desk.add
    rw [if_neg e, if_neg e2, hlen]; rfl
abbrev s_add_clause_of_two : Stmt := top 48
theorem sc_add_clause_of_two : FnScope ["ledger", "kind", "i", "j", "refusal"] ["ledger", "kind", "i", "j"] (defScope s_add_clause_of_two) := ⟨rfl, rfl, rfl, by decide +kernel, rfl, by decide +kernel, by decide +kernel⟩
def twoC (d : Desk) (kind i j : Nat) : Desk × Ans := if d.now.no i j = true then (d, only (-2)) else if i = j then (d, only (-22)) else d.add ⟨kind, i, j, 0⟩
theorem ref2_cases (b : Book) (i j : Nat) : (b.no i j = true ∧ ref2 b i j = -2) ∨ (¬ b.no i j = true ∧ i = j ∧ ref2 b i j = -22) ∨ (¬ b.no i j = true ∧ i ≠ j ∧ ref2 b i j = 0 ∧ i < b.n ∧ j < b.n) := by
  rw [no_ref2]
  by_cases h : b.no i j = true
  · rw [if_pos h]; exact .inl ⟨h, rfl⟩
  · rw [if_neg h]
    by_cases e : i = j
    · rw [if_pos e]; exact .inr (.inl ⟨h, e, rfl⟩)
    · rw [if_neg e]; exact .inr (.inr ⟨h, e, rfl, no_false h⟩)
def sp_add_clause_of_two (Cp Cl : Addr) : Sp := fun vs H Q _ => ∃ a pa ua d kind i j, vs = [.ref a, nv kind, nv i, nv j] ∧ Led Cp Cl H a pa ua (some d) ∧ GoodD d ∧ ∀ v' H', Done Cp Cl H H' a pa ua (twoC d kind i j) v' → Q v' H'
theorem ok_add_clause_of_two {f : Addr} {fd : FuncData} (F : Fun K "add_clause_of_two" "add_clause_of_two" s_add_clause_of_two f fd) (T : Txt K mg Cp Cl) (C_refusal_of_two : Callee P w K mg base "refusal_of_two" 2 ["pact", "i", "j"] (sp_refusal_of_two Cp)) (C_add_clause : Callee P w K mg base "add_clause" 4 ["ledger", "clause"] (sp_add_clause Cp Cl)) : FnOk P w K mg base CX0 5 f fd ["ledger", "kind", "i", "j"] (sp_add_clause_of_two Cp Cl) := by
  refine F.ok sc_add_clause_of_two (fun vs H Q E h => ?_) (fun cdv A outer s H vs Q E hr h => ?_)
  · obtain ⟨a, pa, ua, d, kind, i, j, rfl, _⟩ := h
    rfl
  · obtain ⟨a, pa, ua, d, kind, i, j, rfl, L, G, k⟩ := h
    refine ⟨_, (pss_cons (ps_set (i := 4) sc_add_clause_of_two.nd rfl (Or.inl rfl) (pe_callC C_refusal_of_two hr rfl (pa_cons (pe_fld (pv 0) rfl) (pa_cons (pv 2) (pa_cons (pv 3) pa_nil)))))
      (pss_cons (ps_if (pt_cmpR op_ne (pv 4) (pe_gi rfl T.g_NO_REFUSAL) (nomark _)) (pss_one (ps_ret (pe_lst (pa_cons (pv 4) pa_nil)))) pss_nil)
      (pss_one (ps_ret (pe_callC C_add_clause hr rfl (pa_cons (pv 0) (pa_cons (pe_tup (pa_cons (pv 1) (pa_cons (pv 2) (pa_cons (pv 3) (pa_cons pe_int pa_nil))))) pa_nil))))))), ?_⟩
    have L0 := L
    obtain ⟨dx, vp, pvs, uvs, ha, hpa, hua, npu, h1', h2', h3'⟩ := L0
    have hP := st_Pact T.ne _ _ _ _ (Keep.of (Cl := Cl) (off_same H pa ua)) h1'
    refine ⟨_, rfl, a, Cl, dx, _, _, rfl, ha, T.cl_Ledger, T.a_pact, rfl, _, rfl, _, rfl, _, d.now, i, j, rfl, hP, ?_⟩
    refine ⟨_, rfl, rfl, _, rfl, ?_⟩
    rcases ref2_cases d.now i j with ⟨h1, e⟩ | ⟨h1, h2, e⟩ | ⟨h1, h2, e, hi, hj⟩
    · rw [e]
      exact ⟨_, rfl, (by show 1 ≤ sizeLine; decide), fun p hp => k _ _ (done_no T.ne L (fun _ _ z => z) hp (by unfold twoC; rw [if_pos h1]))⟩
    · rw [e]
      exact ⟨_, rfl, (by show 1 ≤ sizeLine; decide), fun p hp => k _ _ (done_no T.ne L (fun _ _ z => z) hp (by unfold twoC; rw [if_neg h1, if_pos h2]))⟩
    · rw [e]
      refine ⟨_, rfl, _, rfl, _, rfl, _, rfl, (by show 4 ≤ sizeLine; decide), fun t nt => ?_⟩
      have s1 := same_new (o := .tup [nv kind, nv i, nv j, nv 0]) nt
      refine ⟨a, pa, ua, d, _, ⟨kind, i, j, 0⟩, rfl, L.same T.ne s1, G, ⟨t, rfl, upd_same⟩, fun v' H' D => k _ _ ⟨?_, ?_⟩⟩
      · have := D.1.pre s1
        unfold twoC; rw [if_neg h1, if_neg h2]; exact this
      · have := D.2
        unfold twoC; rw [if_neg h1, if_neg h2]; exact this
abbrev s_mf_favour : Stmt := top 45
theorem sc_mf_favour : FnScope ["ledger", "i", "j"] ["ledger", "i", "j"] (defScope s_mf_favour) := ⟨rfl, rfl, rfl, by decide +kernel, rfl, by decide +kernel, by decide +kernel⟩
def sp_mf_favour (Cp Cl : Addr) : Sp := fun vs H Q _ => ∃ a pa ua d i j, vs = [.ref a, nv i, nv j] ∧ Led Cp Cl H a pa ua (some d) ∧ GoodD d ∧ ∀ v' H', Done Cp Cl H H' a pa ua (act d (.favour i j)) v' → Q v' H'
theorem ok_mf_favour {f : Addr} {fd : FuncData} (F : Fun K "mf_favour" "mf_favour" s_mf_favour f fd) (T : Txt K mg Cp Cl) (C_add_clause_of_two : Callee P w K mg base "add_clause_of_two" 5 ["ledger", "kind", "i", "j"] (sp_add_clause_of_two Cp Cl)) : FnOk P w K mg base CX0 6 f fd ["ledger", "i", "j"] (sp_mf_favour Cp Cl) := by
  refine F.ok sc_mf_favour (fun vs H Q E h => ?_) (fun cdv A outer s H vs Q E hr h => ?_)
  · obtain ⟨a, pa, ua, d, i, j, rfl, _⟩ := h
    rfl
  · obtain ⟨a, pa, ua, d, i, j, rfl, L, G, k⟩ := h
    refine ⟨_, (pss_one (ps_ret (pe_callC C_add_clause_of_two hr rfl (pa_cons (pv 0) (pa_cons (pe_gi rfl T.g_FAVOUR) (pa_cons (pv 1) (pa_cons (pv 2) pa_nil))))))), ?_⟩
    exact ⟨_, rfl, _, rfl, _, rfl, a, pa, ua, d, 1, i, j, rfl, L, G, fun v' H' D => k _ _ D⟩
abbrev s_mf_mirror : Stmt := top 46
theorem sc_mf_mirror : FnScope ["ledger", "i", "j"] ["ledger", "i", "j"] (defScope s_mf_mirror) := ⟨rfl, rfl, rfl, by decide +kernel, rfl, by decide +kernel, by decide +kernel⟩
def sp_mf_mirror (Cp Cl : Addr) : Sp := fun vs H Q _ => ∃ a pa ua d i j, vs = [.ref a, nv i, nv j] ∧ Led Cp Cl H a pa ua (some d) ∧ GoodD d ∧ ∀ v' H', Done Cp Cl H H' a pa ua (act d (.mirror i j)) v' → Q v' H'
theorem ok_mf_mirror {f : Addr} {fd : FuncData} (F : Fun K "mf_mirror" "mf_mirror" s_mf_mirror f fd) (T : Txt K mg Cp Cl) (C_add_clause_of_two : Callee P w K mg base "add_clause_of_two" 5 ["ledger", "kind", "i", "j"] (sp_add_clause_of_two Cp Cl)) : FnOk P w K mg base CX0 6 f fd ["ledger", "i", "j"] (sp_mf_mirror Cp Cl) := by
  refine F.ok sc_mf_mirror (fun vs H Q E h => ?_) (fun cdv A outer s H vs Q E hr h => ?_)
  · obtain ⟨a, pa, ua, d, i, j, rfl, _⟩ := h
    rfl
  · obtain ⟨a, pa, ua, d, i, j, rfl, L, G, k⟩ := h
    refine ⟨_, (pss_one (ps_ret (pe_callC C_add_clause_of_two hr rfl (pa_cons (pv 0) (pa_cons (pe_gi rfl T.g_MIRROR) (pa_cons (pv 1) (pa_cons (pv 2) pa_nil))))))), ?_⟩
    exact ⟨_, rfl, _, rfl, _, rfl, a, pa, ua, d, 2, i, j, rfl, L, G, fun v' H' D => k _ _ D⟩
abbrev s_mf_follow : Stmt := top 47
theorem sc_mf_follow : FnScope ["ledger", "i", "j", "k", "pact"] ["ledger", "i", "j", "k"] (defScope s_mf_follow) := ⟨rfl, rfl, rfl, by decide +kernel, rfl, by decide +kernel, by decide +kernel⟩
def sp_mf_follow (Cp Cl : Addr) : Sp := fun vs H Q _ => ∃ a pa ua d i j k, vs = [.ref a, nv i, nv j, nv k] ∧ Led Cp Cl H a pa ua (some d) ∧ GoodD d ∧ ∀ v' H', Done Cp Cl H H' a pa ua (act d (.follow i j k)) v' → Q v' H'
theorem ok_mf_follow {f : Addr} {fd : FuncData} (F : Fun K "mf_follow" "mf_follow" s_mf_follow f fd) (T : Txt K mg Cp Cl) (C_has_state : Callee P w K mg base "has_state" 1 ["pact", "i"] (sp_has_state Cp)) (C_add_clause : Callee P w K mg base "add_clause" 4 ["ledger", "clause"] (sp_add_clause Cp Cl)) : FnOk P w K mg base CX0 5 f fd ["ledger", "i", "j", "k"] (sp_mf_follow Cp Cl) := by
  refine F.ok sc_mf_follow (fun vs H Q E h => ?_) (fun cdv A outer s H vs Q E hr h => ?_)
  · obtain ⟨a, pa, ua, d, i, j, k, rfl, _⟩ := h
    rfl
  · obtain ⟨a, pa, ua, d, i, j, q, rfl, L, G, k⟩ := h
    refine ⟨_, (pss_cons (ps_set (i := 4) sc_mf_follow.nd rfl (Or.inl rfl) (pe_fld (pv 0) rfl))
      (pss_cons (ps_if (PW.pt (pw_or (pt_not (pt_val (pe_callC C_has_state hr rfl (pa_cons (pv 4) (pa_cons (pv 1) pa_nil))))) (pw_or (pt_not (pt_val (pe_callC C_has_state hr rfl (pa_cons (pv 4) (pa_cons (pv 2) pa_nil))))) (pw_or1 (pt_not (pt_val (pe_callC C_has_state hr rfl (pa_cons (pv 4) (pa_cons (pv 3) pa_nil))))))))) (pss_one (ps_ret (pe_lst (pa_cons (pe_gi rfl T.g_NONE_THERE) pa_nil)))) pss_nil)
      (pss_cons (ps_if (PW.pt (pw_or (pt_cmpR op_eq (pv 1) (pv 2) (nomark _)) (pw_or (pt_cmpR op_eq (pv 1) (pv 3) (nomark _)) (pw_or1 (pt_cmpR op_eq (pv 2) (pv 3) (nomark _)))))) (pss_one (ps_ret (pe_lst (pa_cons (pe_gi rfl T.g_UNFIT) pa_nil)))) pss_nil)
      (pss_one (ps_ret (pe_callC C_add_clause hr rfl (pa_cons (pv 0) (pa_cons (pe_tup (pa_cons (pe_gi rfl T.g_FOLLOW) (pa_cons (pv 1) (pa_cons (pv 2) (pa_cons (pv 3) pa_nil))))) pa_nil)))))))), ?_⟩
    have L0 := L
    obtain ⟨dx, vp, pvs, uvs, ha, hpa, hua, npu, h1', h2', h3'⟩ := L0
    have hP := st_Pact T.ne _ _ _ _ (Keep.of (Cl := Cl) (off_same H pa ua)) h1'
    have no : d.now.n ≤ i ∨ d.now.n ≤ j ∨ d.now.n ≤ q → 1 ≤ sizeLine ∧ ∀ p, H p = none → Q (.ref p) (upd H p (.lst [.int (-2)])) := fun z =>
      ⟨(by decide), fun p hp => k _ _ (done_no T.ne L (fun _ _ z => z) hp (by simp only [act]; rw [if_pos (by rw [no_true]; omega)]))⟩
    refine ⟨_, rfl, a, Cl, dx, _, _, rfl, ha, T.cl_Ledger, T.a_pact, rfl, ?_⟩
    refine ⟨_, rfl, _, rfl, _, d.now, i, rfl, hP, _, rfl, ite2 (fun e => ?_) (fun e => ?_)⟩
    · exact no (.inl (by simp at e; omega))
    have hi : i < d.now.n := by simp at e; omega
    refine ⟨_, rfl, _, rfl, _, d.now, j, rfl, hP, _, rfl, ite2 (fun e => ?_) (fun e => ?_)⟩
    · exact no (.inr (.inl (by simp at e; omega)))
    have hj : j < d.now.n := by simp at e; omega
    refine ⟨_, rfl, _, rfl, _, d.now, q, rfl, hP, _, rfl, ite2 (fun e => ?_) (fun e => ?_)⟩
    · exact no (.inr (.inr (by simp at e; omega)))
    have hq : q < d.now.n := by simp at e; omega
    have yes : ¬ (d.now.no i j = true ∨ d.now.n ≤ q) := by rw [no_true]; omega
    have bad : (i = j ∨ i = q ∨ j = q) → 1 ≤ sizeLine ∧ ∀ p, H p = none → Q (.ref p) (upd H p (.lst [.int (-22)])) := fun z =>
      ⟨(by decide), fun p hp => k _ _ (done_no T.ne L (fun _ _ z => z) hp (by simp only [act]; rw [if_neg yes, if_pos z]))⟩
    refine ⟨_, rfl, _, rfl, rfl, _, rfl, ite2 (fun e => ?_) (fun e => ?_)⟩
    · exact bad (.inl (by have := of_decide_eq_true e; injection this with this; omega))
    have n1 : i ≠ j := fun z => e (by rw [z]; simp)
    refine ⟨_, rfl, _, rfl, rfl, _, rfl, ite2 (fun e => ?_) (fun e => ?_)⟩
    · exact bad (.inr (.inl (by have := of_decide_eq_true e; injection this with this; omega)))
    have n2 : i ≠ q := fun z => e (by rw [z]; simp)
    refine ⟨_, rfl, _, rfl, rfl, _, rfl, ite2 (fun e => ?_) (fun e => ?_)⟩
    · exact bad (.inr (.inr (by have := of_decide_eq_true e; injection this with this; omega)))
    have n3 : j ≠ q := fun z => e (by rw [z]; simp)
    refine ⟨_, rfl, _, rfl, _, rfl, _, rfl, (by show 4 ≤ sizeLine; decide), fun t nt => ?_⟩
    have s1 := same_new (o := .tup [nv 3, nv i, nv j, nv q]) nt
    refine ⟨a, pa, ua, d, _, ⟨3, i, j, q⟩, rfl, L.same T.ne s1, G, ⟨t, rfl, upd_same⟩, fun v' H' D => k _ _ ⟨?_, ?_⟩⟩
    · have := D.1.pre s1
      simp only [act]; rw [if_neg yes, if_neg (by omega)]; exact this
    · have := D.2
      simp only [act]; rw [if_neg yes, if_neg (by omega)]; exact this
end
end Mf

namespace Mf
open PySem PySem.Spec PyProof.Rows L2 Km482
theorem filter_len {x : Nat × Nat} : ∀ {l : List (Nat × Nat)}, l.Nodup → x ∈ l → (l.filter (· != x)).length = l.length - 1
  | [], _, h => by simp at h
  | y :: l, nd, h => by
    rw [List.nodup_cons] at nd
    by_cases e : y = x
    · subst e
      rw [List.filter_cons_of_neg (by simp), List.filter_eq_self.mpr (fun z hz => by simp; intro q; subst q; exact nd.1 hz)]
      simp
    · have hm : x ∈ l := by
        rcases List.mem_cons.mp h with z | z
        · exact absurd z.symm e
        · exact z
      rw [List.filter_cons_of_pos (by simp [e]), List.length_cons, filter_len nd.2 hm, List.length_cons]
      have := List.length_pos_of_mem hm
      omega
section
variable {P : Program} {w : World} {K : PySem.W.Frag} {mg : Str → Option Value} {base : Heap} {Cp Cl : Addr}
abbrev s_mf_drop : Stmt := top 50
theorem sc_mf_drop : FnScope ["ledger", "c", "pact", "left"] ["ledger", "c"] (defScope s_mf_drop) := ⟨rfl, rfl, rfl, by decide +kernel, rfl, by decide +kernel, by decide +kernel⟩
def sp_mf_drop (Cp Cl : Addr) : Sp := fun vs H Q _ => ∃ a pa ua d c, vs = [.ref a, nv c] ∧ Led Cp Cl H a pa ua (some d) ∧ GoodD d ∧ ∀ v' H', Done Cp Cl H H' a pa ua (act d (.drop c)) v' → Q v' H'
theorem ok_mf_drop {f : Addr} {fd : FuncData} (F : Fun K "mf_drop" "mf_drop" s_mf_drop f fd) (T : Txt K mg Cp Cl) (C_without_clause : Callee P w K mg base "without_clause" 4 ["pact", "c"] (sp_without_clause Cp)) (C_Ledger_change_to : CalleeM P w K mg base Cl "change_to" 1 ["self", "pact"] (sp_Ledger_change_to Cp Cl)) : FnOk P w K mg base CX0 5 f fd ["ledger", "c"] (sp_mf_drop Cp Cl) := by
  refine F.ok sc_mf_drop (fun vs H Q E h => ?_) (fun cdv A outer s H vs Q E hr h => ?_)
  · obtain ⟨a, pa, ua, d, c, rfl, _⟩ := h
    rfl
  · obtain ⟨a, pa, ua, d, c, rfl, L, G, k⟩ := h
    refine ⟨_, (pss_cons (ps_set (i := 2) sc_mf_drop.nd rfl (Or.inl rfl) (pe_fld (pv 0) rfl))
      (pss_cons (ps_if (pt_cmpR op_ge (pv 1) (pe_callB call_len_seq (by rfl) T.b_len PySem.boot_len (pa_cons (pe_fld (pv 2) rfl) pa_nil)) (nomark _)) (pss_one (ps_ret (pe_lst (pa_cons (pe_gi rfl T.g_NONE_THERE) pa_nil)))) pss_nil)
      (pss_cons (ps_set (i := 3) sc_mf_drop.nd rfl (Or.inl rfl) (pe_callC C_without_clause hr rfl (pa_cons (pv 2) (pa_cons (pv 1) pa_nil))))
      (pss_cons (ps_expr (pe_methC (pv 0) T.cl_Ledger C_Ledger_change_to hr (pa_cons (pv 3) pa_nil)))
      (pss_one (ps_ret (pe_lst (pa_cons (pe_callB call_len_seq (by rfl) T.b_len PySem.boot_len (pa_cons (pe_fld (pv 3) rfl) pa_nil)) pa_nil)))))))), ?_⟩
    have L0 := L
    obtain ⟨dx, vp, pvs, uvs, ha, hpa, hua, npu, h1', h2', h3'⟩ := L0
    have hP := st_Pact T.ne _ _ _ _ (Keep.of (Cl := Cl) (off_same H pa ua)) h1'
    have hP0 := hP
    obtain ⟨a2, dx2, fs2, vl, vc, vu, rfl, ha2, f1, f2, f3, f4, f5, r1, ⟨lc, cvs, rfl, hlc, hcs⟩, r3⟩ := hP0
    have hlen := pd_len hcs
    refine ⟨_, rfl, a, Cl, dx, _, _, rfl, ha, T.cl_Ledger, T.a_pact, rfl, ?_⟩
    refine ⟨_, rfl, _, rfl, a2, Cp, dx2, _, _, rfl, ha2, T.cl_Pact, T.a_clauses, f4, lc, _, rfl, .inl (SqL.of hlc), _, _, rfl, rfl, _, rfl, ite2 (fun e => ?_) (fun e => ?_)⟩
    · have e := of_decide_eq_true e
      exact ⟨(by show 1 ≤ sizeLine; decide), fun p hp => k _ _ (done_no T.ne L (fun _ _ z => z) hp (by simp only [act]; rw [if_pos (by omega)]))⟩
    have e : ¬ d.now.clauses.length ≤ c := fun z => e (decide_eq_true (by omega))
    refine ⟨_, rfl, _, rfl, _, d.now, c, rfl, hP, G.now, by omega, fun v' H1 s1 hP1 => ?_⟩
    have few := G.few
    refine ⟨_, rfl, a, dx, _, rfl, s1 _ _ ha, rfl, _, rfl, a, pa, ua, d, v', _, rfl, L.same T.ne s1, by omega, hP1, fun H2 N kp => ?_⟩
    have hP2 := st_Pact T.ne _ _ _ _ kp hP1
    obtain ⟨a3, dx3, fs3, vl3, vc3, vu3, rfl, ha3, g1, g2, g3, g4, g5, t1, ⟨lc3, cvs3, rfl, hlc3, hcs3⟩, t3⟩ := hP2
    have hlen3 := pd_len hcs3
    refine ⟨_, rfl, a3, Cp, dx3, _, _, rfl, ha3, T.cl_Pact, T.a_clauses, g4, lc3, _, rfl, .inl (SqL.of hlc3), (by show 1 ≤ sizeLine; decide), fun p hp => k _ _ (done_one T.ne (N.pre s1) hp ?_)⟩
    simp only [act]
    have el : (d.now.without c).clauses.length = d.now.clauses.length - 1 := by
      show (d.now.clauses.take c ++ d.now.clauses.drop (c + 1)).length = _
      rw [List.length_append, List.length_take, List.length_drop]; omega
    rw [if_neg e, hlen3, el]; rfl
abbrev s_mf_union : Stmt := top 51
theorem sc_mf_union : FnScope ["ledger", "i", "j", "pact", "refusal", "unions"] ["ledger", "i", "j"] (defScope s_mf_union) := ⟨rfl, rfl, rfl, by decide +kernel, rfl, by decide +kernel, by decide +kernel⟩
def sp_mf_union (Cp Cl : Addr) : Sp := fun vs H Q _ => ∃ a pa ua d i j, vs = [.ref a, nv i, nv j] ∧ Led Cp Cl H a pa ua (some d) ∧ GoodD d ∧ ∀ v' H', Done Cp Cl H H' a pa ua (act d (.union i j)) v' → Q v' H'
theorem ok_mf_union {f : Addr} {fd : FuncData} (F : Fun K "mf_union" "mf_union" s_mf_union f fd) (T : Txt K mg Cp Cl) (C_refusal_of_two : Callee P w K mg base "refusal_of_two" 2 ["pact", "i", "j"] (sp_refusal_of_two Cp)) (C_in_union : Callee P w K mg base "in_union" 2 ["pact", "i", "j"] (sp_in_union Cp)) (C_union_of : Callee P w K mg base "union_of" 1 ["i", "j"] sp_union_of) (C_Ledger_change_to : CalleeM P w K mg base Cl "change_to" 1 ["self", "pact"] (sp_Ledger_change_to Cp Cl)) (C_with_unions : Callee P w K mg base "with_unions" 3 ["pact", "unions"] (sp_with_unions Cp)) : FnOk P w K mg base CX0 4 f fd ["ledger", "i", "j"] (sp_mf_union Cp Cl) := by
  refine F.ok sc_mf_union (fun vs H Q E h => ?_) (fun cdv A outer s H vs Q E hr h => ?_)
  · obtain ⟨a, pa, ua, d, i, j, rfl, _⟩ := h
    rfl
  · obtain ⟨a, pa, ua, d, i, j, rfl, L, G, k⟩ := h
    refine ⟨_, (pss_cons (ps_set (i := 3) sc_mf_union.nd rfl (Or.inl rfl) (pe_fld (pv 0) rfl))
      (pss_cons (ps_set (i := 4) sc_mf_union.nd rfl (Or.inl rfl) (pe_callC C_refusal_of_two hr rfl (pa_cons (pv 3) (pa_cons (pv 1) (pa_cons (pv 2) pa_nil)))))
      (pss_cons (ps_if (pt_cmpR op_ne (pv 4) (pe_gi rfl T.g_NO_REFUSAL) (nomark _)) (pss_one (ps_ret (pe_lst (pa_cons (pv 4) pa_nil)))) pss_nil)
      (pss_cons (ps_if (pt_val (pe_callC C_in_union hr rfl (pa_cons (pv 3) (pa_cons (pv 1) (pa_cons (pv 2) pa_nil))))) (pss_one (ps_ret (pe_lst (pa_cons (pe_gi rfl T.g_THERE_ALREADY) pa_nil)))) pss_nil)
      (pss_cons (ps_set (i := 5) sc_mf_union.nd rfl (Or.inl rfl) (pe_op op_cat (pe_fld (pv 3) rfl) (pe_lst (pa_cons (pe_callC C_union_of hr rfl (pa_cons (pv 1) (pa_cons (pv 2) pa_nil))) pa_nil))))
      (pss_cons (ps_expr (pe_methC (pv 0) T.cl_Ledger C_Ledger_change_to hr (pa_cons (pe_callC C_with_unions hr rfl (pa_cons (pv 3) (pa_cons (pv 5) pa_nil))) pa_nil)))
      (pss_one (ps_ret (pe_lst (pa_cons (pe_callB call_len_seq (by rfl) T.b_len PySem.boot_len (pa_cons (pv 5) pa_nil)) pa_nil)))))))))), ?_⟩
    have L0 := L
    obtain ⟨dx, vp, pvs, uvs, ha, hpa, hua, npu, h1', h2', h3'⟩ := L0
    have hP := st_Pact T.ne _ _ _ _ (Keep.of (Cl := Cl) (off_same H pa ua)) h1'
    have hP0 := hP
    obtain ⟨a2, dx2, fs2, vl, vc, vu, rfl, ha2, f1, f2, f3, f4, f5, r1, r2, ⟨lu, vvs, rfl, hlu, hus⟩⟩ := hP0
    have hlen := pd_len hus
    have hul := good_ulen G.now
    refine ⟨_, rfl, a, Cl, dx, _, _, rfl, ha, T.cl_Ledger, T.a_pact, rfl, ?_⟩
    refine ⟨_, rfl, _, rfl, _, rfl, _, d.now, i, j, rfl, hP, ?_⟩
    refine ⟨_, rfl, rfl, _, rfl, ?_⟩
    rcases ref2_cases d.now i j with ⟨h1, e⟩ | ⟨h1, h2, e⟩ | ⟨h1, h2, e, hi, hj⟩
    · rw [e]
      exact ⟨_, rfl, (by show 1 ≤ sizeLine; decide), fun p hp => k _ _ (done_no T.ne L (fun _ _ z => z) hp (by simp only [act]; rw [if_pos h1]))⟩
    · rw [e]
      exact ⟨_, rfl, (by show 1 ≤ sizeLine; decide), fun p hp => k _ _ (done_no T.ne L (fun _ _ z => z) hp (by simp only [act]; rw [if_neg h1, if_pos h2]))⟩
    rw [e]
    refine ⟨_, rfl, _, rfl, _, rfl, _, d.now, i, j, rfl, hP, hul, fun H1 s1 => ⟨_, rfl, ite2 (fun e2 => ?_) (fun e2 => ?_)⟩⟩
    · exact ⟨(by show 1 ≤ sizeLine; decide), fun p hp => k _ _ (done_no T.ne L s1 hp (by simp only [act]; rw [if_neg h1, if_neg h2, if_pos e2]))⟩
    refine ⟨_, rfl, a2, Cp, dx2, _, _, rfl, s1 _ _ ha2, T.cl_Pact, T.a_unions, f5, _, rfl, _, rfl, i, j, rfl, fun vu2 H2 s2 hu2 => ?_⟩
    refine ⟨(by show 1 ≤ sizeLine; decide), fun l1 n1 => ?_⟩
    have s12 := (s1.trans s2).trans (same_new (o := .lst [vu2]) n1)
    refine ⟨lu, l1, _, _, rfl, rfl, s12 _ _ hlu, upd_same, by rw [List.length_singleton, sizeLine_eq]; omega, fun l2 n2 => ?_⟩
    have s3 := s12.trans (same_new (o := .lst (vvs ++ [vu2])) n2)
    have s23 := (same_new (o := .lst [vu2]) n1).trans (same_new (o := .lst (vvs ++ [vu2])) n2)
    refine ⟨_, rfl, a, dx, _, rfl, s3 _ _ ha, rfl, _, rfl, _, rfl, _, d.now, _, d.now.unions ++ [(min i j, max i j)], rfl, st_Pact T.ne _ _ _ _ (Keep.of s3) hP, ⟨l2, _, rfl, upd_same, Paired.snoc (Paired.mono (fun v x h => tk_Pair (TupKeep.of s3) h) hus) (tk_Pair (TupKeep.of s23) hu2)⟩, fun v' H3 s4 hP3 => ?_⟩
    have s34 := s3.trans s4
    have few := G.few
    refine ⟨a, pa, ua, d, v', _, rfl, L.same T.ne s34, by omega, hP3, fun H4 N kp => ?_⟩
    have hl2 := kp _ _ (s4 _ _ (upd_same (H := (upd H2 l1 (.lst [vu2]))) (a := l2) (o := .lst (vvs ++ [vu2])))) (fun _ _ z => by cases z)
    refine ⟨_, rfl, l2, _, rfl, .inl (SqL.of hl2), (by show 1 ≤ sizeLine; decide), fun p hp => k _ _ (done_one T.ne (N.pre s34) hp ?_)⟩
    simp only [act]
    rw [if_neg h1, if_neg h2, if_neg e2, List.length_append, List.length_singleton, hlen]; rfl
abbrev s_mf_part : Stmt := top 52
theorem sc_mf_part : FnScope ["ledger", "i", "j", "pact", "parted", "left", "pair"] ["ledger", "i", "j"] (defScope s_mf_part) := ⟨rfl, rfl, rfl, by decide +kernel, rfl, by decide +kernel, by decide +kernel⟩
def sp_mf_part (Cp Cl : Addr) : Sp := fun vs H Q _ => ∃ a pa ua d i j, vs = [.ref a, nv i, nv j] ∧ Led Cp Cl H a pa ua (some d) ∧ GoodD d ∧ ∀ v' H', Done Cp Cl H H' a pa ua (act d (.part i j)) v' → Q v' H'
theorem ok_mf_part {f : Addr} {fd : FuncData} (F : Fun K "mf_part" "mf_part" s_mf_part f fd) (T : Txt K mg Cp Cl) (C_has_state : Callee P w K mg base "has_state" 1 ["pact", "i"] (sp_has_state Cp)) (C_in_union : Callee P w K mg base "in_union" 2 ["pact", "i", "j"] (sp_in_union Cp)) (C_union_of : Callee P w K mg base "union_of" 1 ["i", "j"] sp_union_of) (C_Ledger_change_to : CalleeM P w K mg base Cl "change_to" 1 ["self", "pact"] (sp_Ledger_change_to Cp Cl)) (C_with_unions : Callee P w K mg base "with_unions" 3 ["pact", "unions"] (sp_with_unions Cp)) : FnOk P w K mg base CX0 4 f fd ["ledger", "i", "j"] (sp_mf_part Cp Cl) := by
  refine F.ok sc_mf_part (fun vs H Q E h => ?_) (fun cdv A outer s H vs Q E hr h => ?_)
  · obtain ⟨a, pa, ua, d, i, j, rfl, _⟩ := h
    rfl
  · obtain ⟨a, pa, ua, d, i, j, rfl, L, G, k⟩ := h
    have hu64 := L2.hu64 hr
    refine ⟨_, (pss_cons (ps_set (i := 3) sc_mf_part.nd rfl (Or.inl rfl) (pe_fld (pv 0) rfl))
      (pss_cons (ps_if (PW.pt (pw_or (pt_not (pt_val (pe_callC C_has_state hr rfl (pa_cons (pv 3) (pa_cons (pv 1) pa_nil))))) (pw_or1 (pt_not (pt_val (pe_callC C_has_state hr rfl (pa_cons (pv 3) (pa_cons (pv 2) pa_nil)))))))) (pss_one (ps_ret (pe_lst (pa_cons (pe_gi rfl T.g_NONE_THERE) pa_nil)))) pss_nil)
      (pss_cons (ps_if (pt_not (pt_val (pe_callC C_in_union hr rfl (pa_cons (pv 3) (pa_cons (pv 1) (pa_cons (pv 2) pa_nil)))))) (pss_one (ps_ret (pe_lst (pa_cons (pe_gi rfl T.g_NOT_IN_UNION) pa_nil)))) pss_nil)
      (pss_cons (ps_set (i := 4) sc_mf_part.nd rfl (Or.inr rfl) (pe_callC C_union_of hr rfl (pa_cons (pv 1) (pa_cons (pv 2) pa_nil))))
      (pss_cons (ps_setLc (i := 5) rfl sc_mf_part.nd rfl rfl (sw_true rfl rfl (by rfl) (by rfl)) (pi_list (pe_fld (pv 3) rfl)) (blkOk_by (own := [("pair", 6)]) (by show blkC ["ledger", "i", "j", "pact", "parted", "left", "pair"] (defScope s_mf_part) _ _ = true; decide +kernel)) (fun _ _ _ _ _ => (pg_name (i := 6) sc_mf_part.nd rfl (Or.inl rfl))) (fun _ _ _ _ _ => (pts_one (pt_cmpR (op_neDK (K := K) rfl hu64) (pv 6) (pv 4) (nomark _)))) (fun _ _ _ _ _ => (pv 6)))
      (pss_cons (ps_expr (pe_methC (pv 0) T.cl_Ledger C_Ledger_change_to hr (pa_cons (pe_callC C_with_unions hr rfl (pa_cons (pv 3) (pa_cons (pv 5) pa_nil))) pa_nil)))
      (pss_one (ps_ret (pe_lst (pa_cons (pe_callB call_len_seq (by rfl) T.b_len PySem.boot_len (pa_cons (pv 5) pa_nil)) pa_nil)))))))))), ?_⟩
    have L0 := L
    obtain ⟨dx, vp, pvs, uvs, ha, hpa, hua, npu, h1', h2', h3'⟩ := L0
    have hP := st_Pact T.ne _ _ _ _ (Keep.of (Cl := Cl) (off_same H pa ua)) h1'
    have hP0 := hP
    obtain ⟨a2, dx2, fs2, vl, vc, vu, rfl, ha2, f1, f2, f3, f4, f5, r1, r2, ⟨lu, vvs, rfl, hlu, hus⟩⟩ := hP0
    have hlen := pd_len hus
    have hul := good_ulen G.now
    have no : d.now.n ≤ i ∨ d.now.n ≤ j → 1 ≤ sizeLine ∧ ∀ p, H p = none → Q (.ref p) (upd H p (.lst [.int (-2)])) := fun z =>
      ⟨(by decide), fun p hp => k _ _ (done_no T.ne L (fun _ _ z => z) hp (by simp only [act]; rw [if_pos (no_true.mpr z)]))⟩
    refine ⟨_, rfl, a, Cl, dx, _, _, rfl, ha, T.cl_Ledger, T.a_pact, rfl, ?_⟩
    refine ⟨_, rfl, _, rfl, _, d.now, i, rfl, hP, _, rfl, ite2 (fun e => ?_) (fun e => ?_)⟩
    · exact no (.inl (by simp at e; omega))
    have hi : i < d.now.n := by simp at e; omega
    refine ⟨_, rfl, _, rfl, _, d.now, j, rfl, hP, _, rfl, ite2 (fun e => ?_) (fun e => ?_)⟩
    · exact no (.inr (by simp at e; omega))
    have hj : j < d.now.n := by simp at e; omega
    have yes : ¬ d.now.no i j = true := by rw [no_true]; omega
    refine ⟨_, rfl, _, rfl, _, rfl, _, d.now, i, j, rfl, hP, hul, fun H1 s1 => ⟨_, rfl, ite2 (fun e2 => ?_) (fun e2 => ?_)⟩⟩
    · have e2 : d.now.union i j = false := by simpa using e2
      exact ⟨(by show 1 ≤ sizeLine; decide), fun p hp => k _ _ (done_no T.ne L s1 hp (by simp only [act]; rw [if_neg yes, if_pos e2]))⟩
    have e2 : d.now.union i j = true := by simpa using e2
    have e2' : ¬ d.now.union i j = false := by rw [e2]; decide
    refine ⟨_, rfl, _, rfl, i, j, rfl, fun vq H2 s2 hq => ?_⟩
    have s12 := s1.trans s2
    refine ⟨_, rfl, a2, Cp, dx2, _, _, rfl, s12 _ _ ha2, T.cl_Pact, T.a_unions, f5, lu, rfl, ⟨_, SqL.of (s12 _ _ hlu)⟩, fun D hD => lc_list (K := K) (a := lu) (xs := vvs) (fun n H' => ∃ ws, Same H2 H' ∧ H' D = some (.lst ws) ∧ Paired (isPair H') ws ((d.now.unions.take n).filter (· != (min i j, max i j))) ∧ ws.length ≤ n) ?_ ?_ ?_ ?_⟩
    · exact ⟨[], same_new hD, upd_same, .nil, Nat.le_refl _⟩
    · rintro n H' _ ⟨_, s3, _⟩
      exact SqL.of (s3 _ _ (s12 _ _ hlu))
    · rintro n x H' hx ⟨ws, s3, hD', pd, hl⟩
      obtain ⟨q, hqn, hxq⟩ := pd_get hus hx
      have hn : n < d.now.unions.length := (List.getElem?_eq_some_iff.mp hqn).1
      have hxq' := tk_Pair (TupKeep.of (s12.trans s3)) hxq
      have hq' := tk_Pair (TupKeep.of s3) hq
      refine ⟨rfl, ?_⟩
      refine ⟨_, rfl, _, rfl, _, _, dp_pair hxq', dp_pair hq', shaped_pD _, shaped_pD _, _, rfl, ite2 (fun z => ?_) (fun z => ?_)⟩
      · have z : q ≠ (min i j, max i j) := fun y => by rw [eqv_pair, y] at z; simp at z
        refine ⟨_, rfl, ws, hD', by rw [sizeLine_eq]; omega, ws ++ [x], fun b' o eb => ?_, upd_same, ?_, by rw [List.length_append, List.length_singleton]; omega⟩
        · rw [upd_ne (ne_of_none eb hD)]; exact s3 _ _ eb
        · rw [take_snoc hqn, List.filter_append, List.filter_cons_of_pos (by simpa using z)]
          exact Paired.snoc (Paired.mono (fun v y h => tk_Pair (TupKeep.lst hD') h) pd) (tk_Pair (TupKeep.lst hD') hxq')
      · have z : q = (min i j, max i j) := Classical.byContradiction fun y => z (by rw [eqv_pair]; simp [y])
        refine ⟨ws, s3, hD', ?_, by omega⟩
        rw [take_snoc hqn, List.filter_append, List.filter_cons_of_neg (by simp [z]), List.filter_nil, List.append_nil]
        exact pd
    · rintro H' ⟨ws, s3, hD', pd, hl⟩
      rw [hlen, List.take_length] at pd
      have s13 := s12.trans s3
      refine ⟨_, rfl, a, dx, _, rfl, s13 _ _ ha, rfl, _, rfl, _, rfl, _, d.now, _, d.now.unions.filter (· != (min i j, max i j)), rfl, st_Pact T.ne _ _ _ _ (Keep.of s13) hP, ⟨D, ws, rfl, hD', pd⟩, fun v' H3 s4 hP3 => ?_⟩
      have s34 := s13.trans s4
      have few := G.few
      refine ⟨a, pa, ua, d, v', _, rfl, L.same T.ne s34, by omega, hP3, fun H4 N kp => ?_⟩
      have hD4 := kp _ _ (s4 _ _ hD') (fun _ _ z => by cases z)
      refine ⟨_, rfl, D, _, rfl, .inl (SqL.of hD4), (by show 1 ≤ sizeLine; decide), fun p hp => k _ _ (done_one T.ne (N.pre s34) hp ?_)⟩
      simp only [act]
      have hm : (min i j, max i j) ∈ d.now.unions := by
        have : d.now.unions.contains (min i j, max i j) = true := e2
        exact List.contains_iff_mem.mp this
      rw [if_neg yes, if_neg e2', pd_len pd, filter_len G.now.und hm]; rfl
abbrev s_mf_settle : Stmt := top 53
theorem sc_mf_settle : FnScope ["ledger", "pact", "fell"] ["ledger"] (defScope s_mf_settle) := ⟨rfl, rfl, rfl, by decide +kernel, rfl, by decide +kernel, by decide +kernel⟩
def sp_mf_settle (Cp Cl : Addr) : Sp := fun vs H Q _ => ∃ a pa ua d, vs = [.ref a] ∧ Led Cp Cl H a pa ua (some d) ∧ GoodD d ∧ ∀ v' H', Done Cp Cl H H' a pa ua (act d .settle) v' → Q v' H'
theorem ok_mf_settle {f : Addr} {fd : FuncData} (F : Fun K "mf_settle" "mf_settle" s_mf_settle f fd) (T : Txt K mg Cp Cl) (C_falls_of : Callee P w K mg base "falls_of" 6 ["pact"] (sp_falls_of Cp)) (C_Ledger_change_to : CalleeM P w K mg base Cl "change_to" 1 ["self", "pact"] (sp_Ledger_change_to Cp Cl)) (C_with_laid : Callee P w K mg base "with_laid" 3 ["pact", "laid"] (sp_with_laid Cp)) (C_taken_of_all : Callee P w K mg base "taken_of_all" 6 ["pact"] (sp_taken_of_all Cp)) : FnOk P w K mg base CX0 7 f fd ["ledger"] (sp_mf_settle Cp Cl) := by
  refine F.ok sc_mf_settle (fun vs H Q E h => ?_) (fun cdv A outer s H vs Q E hr h => ?_)
  · obtain ⟨a, pa, ua, d, rfl, _⟩ := h
    rfl
  · obtain ⟨a, pa, ua, d, rfl, L, G, k⟩ := h
    refine ⟨_, (pss_cons (ps_set (i := 1) sc_mf_settle.nd rfl (Or.inl rfl) (pe_fld (pv 0) rfl))
      (pss_cons (ps_set (i := 2) sc_mf_settle.nd rfl (Or.inl rfl) (pe_callC C_falls_of hr rfl (pa_cons (pv 1) pa_nil)))
      (pss_cons (ps_if (pt_cmpR op_eq (pe_callB call_len_seq (by rfl) T.b_len PySem.boot_len (pa_cons (pv 2) pa_nil)) pe_int (nomark _)) (pss_one (ps_ret (pe_lst (pa_cons (pe_gi rfl T.g_THERE_ALREADY) pa_nil)))) pss_nil)
      (pss_cons (ps_expr (pe_methC (pv 0) T.cl_Ledger C_Ledger_change_to hr (pa_cons (pe_callC C_with_laid hr rfl (pa_cons (pv 1) (pa_cons (pe_callC C_taken_of_all hr rfl (pa_cons (pv 1) pa_nil)) pa_nil))) pa_nil)))
      (pss_one (ps_ret (pe_lst (pa_cons (pe_callB call_len_seq (by rfl) T.b_len PySem.boot_len (pa_cons (pv 2) pa_nil)) pa_nil)))))))), ?_⟩
    have L0 := L
    obtain ⟨dx, vp, pvs, uvs, ha, hpa, hua, npu, h1', h2', h3'⟩ := L0
    have hP := st_Pact T.ne _ _ _ _ (Keep.of (Cl := Cl) (off_same H pa ua)) h1'
    refine ⟨_, rfl, a, Cl, dx, _, _, rfl, ha, T.cl_Ledger, T.a_pact, rfl, ?_⟩
    refine ⟨_, rfl, _, d.now, rfl, hP, G.now, fun v' H1 s1 hv hl => ?_⟩
    obtain ⟨fa, rfl, nfa, hfa⟩ := hv
    refine ⟨_, rfl, fa, _, rfl, .inl (SqL.of hfa), rfl, _, rfl, ite2 (fun e => ?_) (fun e => ?_)⟩
    · have e := of_decide_eq_true e
      injection e with e
      rw [List.length_map] at e
      have e0 : fallsL d.now d.now.m = [] := List.length_eq_zero_iff.mp (by omega)
      exact ⟨(by show 1 ≤ sizeLine; decide), fun p hp => k _ _ (done_no T.ne L s1 hp (by simp only [act]; rw [if_pos ((falls_nil G.now).mp e0)]))⟩
    have e0 : ¬ d.now.settled = d.now := fun z => e (by rw [(falls_nil G.now).mpr z]; rfl)
    refine ⟨_, rfl, a, dx, _, rfl, s1 _ _ ha, rfl, _, rfl, _, rfl, _, d.now, rfl, st_Pact T.ne _ _ _ _ (Keep.of s1) hP, G.now, fun vt H2 s2 hT => ?_⟩
    have s12 := s1.trans s2
    refine ⟨_, d.now, _, d.now.settled, rfl, st_Pact T.ne _ _ _ _ (Keep.of s12) hP, by rw [settled_laid G.now]; exact hT, ⟨rfl, rfl, rfl, rfl⟩, fun v2 H3 s3 hP3 => ?_⟩
    have s13 := s12.trans s3
    have few := G.few
    refine ⟨a, pa, ua, d, v2, _, rfl, L.same T.ne s13, by omega, hP3, fun H4 N kp => ?_⟩
    have hf4 := kp _ _ (s3 _ _ (s2 _ _ hfa)) (fun _ _ z => by cases z)
    refine ⟨_, rfl, fa, _, rfl, .inl (SqL.of hf4), (by show 1 ≤ sizeLine; decide), fun p hp => k _ _ (done_one T.ne (N.pre s13) hp ?_)⟩
    simp only [act]
    rw [if_neg e0, falls_eq G.now, List.length_map]; rfl
/-! ### back and forth -/
abbrev s_mf_back : Stmt := top 55
theorem sc_mf_back : FnScope ["ledger"] ["ledger"] (defScope s_mf_back) := ⟨rfl, rfl, rfl, by decide +kernel, rfl, by decide +kernel, by decide +kernel⟩
def sp_mf_back (Cp Cl : Addr) : Sp := fun vs H Q _ => ∃ a pa ua d, vs = [.ref a] ∧ Led Cp Cl H a pa ua (some d) ∧ GoodD d ∧ ∀ v' H', Done Cp Cl H H' a pa ua (act d .back) v' → Q v' H'
theorem ok_mf_back {f : Addr} {fd : FuncData} (F : Fun K "mf_back" "mf_back" s_mf_back f fd) (T : Txt K mg Cp Cl) (C_Ledger_take_back : CalleeM P w K mg base Cl "take_back" 1 ["self"] (sp_Ledger_take_back Cp Cl)) : FnOk P w K mg base CX0 2 f fd ["ledger"] (sp_mf_back Cp Cl) := by
  refine F.ok sc_mf_back (fun vs H Q E h => ?_) (fun cdv A outer s H vs Q E hr h => ?_)
  · obtain ⟨a, pa, ua, d, rfl, _⟩ := h
    rfl
  · obtain ⟨a, pa, ua, d, rfl, L, G, k⟩ := h
    refine ⟨_, (pss_cons (ps_if (pt_cmpR op_eq (pe_callB call_len_seq (by rfl) T.b_len PySem.boot_len (pa_cons (pe_fld (pv 0) rfl) pa_nil)) pe_int (nomark _)) (pss_one (ps_ret (pe_lst (pa_cons (pe_gi rfl T.g_NONE_THERE) pa_nil)))) pss_nil)
      (pss_cons (ps_expr (pe_methC0 (pv 0) T.cl_Ledger C_Ledger_take_back hr))
      (pss_one (ps_ret (pe_lst (pa_cons (pe_callB call_len_seq (by rfl) T.b_len PySem.boot_len (pa_cons (pe_fld (pv 0) rfl) pa_nil)) pa_nil)))))), ?_⟩
    have L0 := L
    obtain ⟨dx, vp, pvs, uvs, ha, hpa, hua, npu, h1', h2', h3'⟩ := L0
    have hl := pd_len h2'
    rw [List.length_reverse] at hl
    refine ⟨_, rfl, a, Cl, dx, _, _, rfl, ha, T.cl_Ledger, T.a_past, rfl, pa, _, rfl, .inl (SqL.of hpa), rfl, _, rfl, ite2 (fun e => ?_) (fun e => ?_)⟩
    · have e := of_decide_eq_true e
      injection e with e
      have e0 : d.past = [] := List.length_eq_zero_iff.mp (by omega)
      exact ⟨(by show 1 ≤ sizeLine; decide), fun p hp => k _ _ (done_no T.ne L (fun _ _ z => z) hp (by simp only [act]; rw [e0]))⟩
    · obtain ⟨kb, r, er⟩ : ∃ kb r, d.past = kb :: r := by
        cases e0 : d.past with
        | nil => rw [e0] at hl; exact absurd (by rw [hl]; rfl) e
        | cons x l => exact ⟨x, l, rfl⟩
      have few := G.few
      refine ⟨_, rfl, a, dx, _, rfl, ha, rfl, a, pa, ua, d, kb, r, rfl, L, er, by omega, fun H1 N => ?_⟩
      have N0 := N
      obtain ⟨pa', ua', ⟨dx1, vp1, pvs1, uvs1, ha1, hpa1, hua1, npu1, g1, g2, g3⟩, _, _, _⟩ := N0
      have hl1 := pd_len g2
      rw [List.length_reverse] at hl1
      refine ⟨_, rfl, a, Cl, dx1, _, _, rfl, ha1, T.cl_Ledger, T.a_past, rfl, pa', _, rfl, .inl (SqL.of hpa1), (by show 1 ≤ sizeLine; decide), fun p hp => k _ _ (done_one T.ne N hp ?_)⟩
      simp only [act]
      rw [er, hl1]; rfl
abbrev s_mf_again : Stmt := top 56
theorem sc_mf_again : FnScope ["ledger"] ["ledger"] (defScope s_mf_again) := ⟨rfl, rfl, rfl, by decide +kernel, rfl, by decide +kernel, by decide +kernel⟩
def sp_mf_again (Cp Cl : Addr) : Sp := fun vs H Q _ => ∃ a pa ua d, vs = [.ref a] ∧ Led Cp Cl H a pa ua (some d) ∧ GoodD d ∧ ∀ v' H', Done Cp Cl H H' a pa ua (act d .again) v' → Q v' H'
theorem ok_mf_again {f : Addr} {fd : FuncData} (F : Fun K "mf_again" "mf_again" s_mf_again f fd) (T : Txt K mg Cp Cl) (C_Ledger_do_again : CalleeM P w K mg base Cl "do_again" 1 ["self"] (sp_Ledger_do_again Cp Cl)) : FnOk P w K mg base CX0 2 f fd ["ledger"] (sp_mf_again Cp Cl) := by
  refine F.ok sc_mf_again (fun vs H Q E h => ?_) (fun cdv A outer s H vs Q E hr h => ?_)
  · obtain ⟨a, pa, ua, d, rfl, _⟩ := h
    rfl
  · obtain ⟨a, pa, ua, d, rfl, L, G, k⟩ := h
    refine ⟨_, (pss_cons (ps_if (pt_cmpR op_eq (pe_callB call_len_seq (by rfl) T.b_len PySem.boot_len (pa_cons (pe_fld (pv 0) rfl) pa_nil)) pe_int (nomark _)) (pss_one (ps_ret (pe_lst (pa_cons (pe_gi rfl T.g_NONE_THERE) pa_nil)))) pss_nil)
      (pss_cons (ps_expr (pe_methC0 (pv 0) T.cl_Ledger C_Ledger_do_again hr))
      (pss_one (ps_ret (pe_lst (pa_cons (pe_callB call_len_seq (by rfl) T.b_len PySem.boot_len (pa_cons (pe_fld (pv 0) rfl) pa_nil)) pa_nil)))))), ?_⟩
    have L0 := L
    obtain ⟨dx, vp, pvs, uvs, ha, hpa, hua, npu, h1', h2', h3'⟩ := L0
    have hl := pd_len h3'
    rw [List.length_reverse] at hl
    refine ⟨_, rfl, a, Cl, dx, _, _, rfl, ha, T.cl_Ledger, T.a_undone, rfl, ua, _, rfl, .inl (SqL.of hua), rfl, _, rfl, ite2 (fun e => ?_) (fun e => ?_)⟩
    · have e := of_decide_eq_true e
      injection e with e
      have e0 : d.future = [] := List.length_eq_zero_iff.mp (by omega)
      exact ⟨(by show 1 ≤ sizeLine; decide), fun p hp => k _ _ (done_no T.ne L (fun _ _ z => z) hp (by simp only [act]; rw [e0]))⟩
    · obtain ⟨kb, r, er⟩ : ∃ kb r, d.future = kb :: r := by
        cases e0 : d.future with
        | nil => rw [e0] at hl; exact absurd (by rw [hl]; rfl) e
        | cons x l => exact ⟨x, l, rfl⟩
      have few := G.few
      refine ⟨_, rfl, a, dx, _, rfl, ha, rfl, a, pa, ua, d, kb, r, rfl, L, er, by omega, fun H1 N => ?_⟩
      have N0 := N
      obtain ⟨pa', ua', ⟨dx1, vp1, pvs1, uvs1, ha1, hpa1, hua1, npu1, g1, g2, g3⟩, _, _, _⟩ := N0
      have hl1 := pd_len g3
      rw [List.length_reverse] at hl1
      refine ⟨_, rfl, a, Cl, dx1, _, _, rfl, ha1, T.cl_Ledger, T.a_undone, rfl, ua', _, rfl, .inl (SqL.of hua1), (by show 1 ≤ sizeLine; decide), fun p hp => k _ _ (done_one T.ne N hp ?_)⟩
      simp only [act]
      rw [er, hl1]; rfl
abbrev s_mf_state : Stmt := top 57
theorem sc_mf_state : FnScope ["ledger", "pact", "counts"] ["ledger"] (defScope s_mf_state) := ⟨rfl, rfl, rfl, by decide +kernel, rfl, by decide +kernel, by decide +kernel⟩
def sp_mf_state (Cp Cl : Addr) : Sp := fun vs H Q _ => ∃ a pa ua d, vs = [.ref a] ∧ Led Cp Cl H a pa ua (some d) ∧ GoodD d ∧ ∀ v' H', Done Cp Cl H H' a pa ua (act d .state) v' → Q v' H'
theorem ok_mf_state {f : Addr} {fd : FuncData} (F : Fun K "mf_state" "mf_state" s_mf_state f fd) (T : Txt K mg Cp Cl) : FnOk P w K mg base CX0 1 f fd ["ledger"] (sp_mf_state Cp Cl) := by
  refine F.ok sc_mf_state (fun vs H Q E h => ?_) (fun cdv A outer s H vs Q E hr h => ?_)
  · obtain ⟨a, pa, ua, d, rfl, _⟩ := h
    rfl
  · obtain ⟨a, pa, ua, d, rfl, L, G, k⟩ := h
    refine ⟨_, (pss_cons (ps_set (i := 1) sc_mf_state.nd rfl (Or.inl rfl) (pe_fld (pv 0) rfl))
      (pss_cons (ps_set (i := 2) sc_mf_state.nd rfl (Or.inl rfl) (pe_lst (pa_cons (pe_fld (pv 1) rfl) (pa_cons (pe_fld (pv 1) rfl) (pa_cons (pe_callB call_len_seq (by rfl) T.b_len PySem.boot_len (pa_cons (pe_fld (pv 1) rfl) pa_nil)) (pa_cons (pe_callB call_len_seq (by rfl) T.b_len PySem.boot_len (pa_cons (pe_fld (pv 0) rfl) pa_nil)) (pa_cons (pe_callB call_len_seq (by rfl) T.b_len PySem.boot_len (pa_cons (pe_fld (pv 0) rfl) pa_nil)) pa_nil)))))))
      (pss_one (ps_ret (pe_op op_cat (pe_lst (pa_cons (pe_callB call_len_seq (by rfl) T.b_len PySem.boot_len (pa_cons (pe_fld (pv 1) rfl) pa_nil)) pa_nil)) (pv 2)))))), ?_⟩
    have L0 := L
    obtain ⟨dx, vp, pvs, uvs, ha, hpa, hua, npu, h1', h2', h3'⟩ := L0
    have hP := st_Pact T.ne _ _ _ _ (Keep.of (Cl := Cl) (off_same H pa ua)) h1'
    obtain ⟨a2, dx2, fs2, vl, vc, vu, rfl, ha2, f1, f2, f3, f4, f5, r1, ⟨lc, cvs, rfl, hlc, hcs⟩, ⟨lu, vvs, rfl, hlu, hus⟩⟩ := hP
    have e1 := pd_len hcs
    have e2 := pd_len hus
    have e3 := pd_len h2'
    have e4 := pd_len h3'
    rw [List.length_reverse] at e3 e4
    refine ⟨_, rfl, a, Cl, dx, _, _, rfl, ha, T.cl_Ledger, T.a_pact, rfl, ?_⟩
    refine ⟨_, rfl, a2, Cp, dx2, _, _, rfl, ha2, T.cl_Pact, T.a_states, f1, _, rfl, a2, Cp, dx2, _, _, rfl, ha2, T.cl_Pact, T.a_goods, f2, _, rfl, a2, Cp, dx2, _, _, rfl, ha2, T.cl_Pact, T.a_unions, f5, lu, _, rfl, .inl (SqL.of hlu), _, rfl, a, Cl, dx, _, _, rfl, ha, T.cl_Ledger, T.a_past, rfl, pa, _, rfl, .inl (SqL.of hpa), _, rfl, a, Cl, dx, _, _, rfl, ha, T.cl_Ledger, T.a_undone, rfl, ua, _, rfl, .inl (SqL.of hua), (by show 5 ≤ sizeLine; decide), fun l1 n1 => ?_⟩
    have s1 : Same H _ := same_new (o := .lst [nv d.now.n, nv d.now.m, .int vvs.length, .int pvs.length, .int uvs.length]) n1
    refine ⟨_, rfl, a2, Cp, dx2, _, _, rfl, s1 _ _ ha2, T.cl_Pact, T.a_clauses, f4, lc, _, rfl, .inl (SqL.of (s1 _ _ hlc)), (by show 1 ≤ sizeLine; decide), fun l2 n2 => ?_⟩
    have s2 := same_new (o := .lst [.int cvs.length]) n2
    refine ⟨_, rfl, l2, l1, _, _, rfl, rfl, upd_same, s2 _ _ upd_same, by rw [sizeLine_eq]; show 1 + 5 ≤ _; omega, fun l3 n3 => k _ _ ⟨Next.stay T.ne ((s1.trans s2).trans (same_new n3)) L, l3, rfl, ?_⟩⟩
    rw [upd_same, e1, e2, e3, e4]; rfl
end
end Mf

namespace Mf
open PySem PySem.Spec PyProof.Rows L2 Km482
/-! ### a call as its numbers -/
def enc : Call → List Nat
  | .start n m => [0, n, m]
  | .duty i j g x => [1, i, j, g, x]
  | .favour i j => [2, i, j]
  | .mirror i j => [3, i, j]
  | .follow i j k => [4, i, j, k]
  | .drop c => [5, c]
  | .clause c => [6, c]
  | .union i j => [7, i, j]
  | .part i j => [8, i, j]
  | .laid i j g => [9, i, j, g]
  | .takes i j g => [10, i, j, g]
  | .row i g => [11, i, g]
  | .falls => [12]
  | .would i j g x => [13, i, j, g, x]
  | .why i j g => [14, i, j, g]
  | .moves i j g => [15, i, j, g]
  | .kept => [16]
  | .settle => [17]
  | .alike i g => [18, i, g]
  | .idle => [19]
  | .back => [20]
  | .again => [21]
  | .state => [22]
def isQ : Call → Bool
  | .start _ _ => false
  | .duty _ _ _ _ => false
  | .favour _ _ => false
  | .mirror _ _ => false
  | .follow _ _ _ => false
  | .drop _ => false
  | .clause _ => true
  | .union _ _ => false
  | .part _ _ => false
  | .laid _ _ _ => true
  | .takes _ _ _ => true
  | .row _ _ => true
  | .falls => true
  | .would _ _ _ _ => true
  | .why _ _ _ => true
  | .moves _ _ _ => true
  | .kept => true
  | .settle => false
  | .alike _ _ => true
  | .idle => true
  | .back => false
  | .again => false
  | .state => false
def isH : Call → Bool
  | .start _ _ => false
  | .duty _ _ _ _ => false
  | .favour _ _ => false
  | .mirror _ _ => false
  | .follow _ _ _ => false
  | .drop _ => false
  | .clause _ => false
  | .union _ _ => false
  | .part _ _ => false
  | .laid _ _ _ => false
  | .takes _ _ _ => false
  | .row _ _ => false
  | .falls => false
  | .would _ _ _ _ => false
  | .why _ _ _ => false
  | .moves _ _ _ => false
  | .kept => false
  | .settle => false
  | .alike _ _ => false
  | .idle => false
  | .back => true
  | .again => true
  | .state => true
/-- what a call makes of the object, and answers -/
def stepN (s : Km482Neutral.S) (c : Call) : Km482Neutral.S × List Int := match s with
  | some d => (some (act d c).1, Km482Neutral.told (act d c).2)
  | none => if Km482Neutral.isStart c = true then (if (Km482Neutral.told (act (fresh 2 1) c).2).headD 0 < 0 then none else some (act (fresh 2 1) c).1, Km482Neutral.told (act (fresh 2 1) c).2) else (none, [])
theorem step_start (s : Km482Neutral.S) (n m : Nat) : stepN s (.start n m) = (startS s n m, startA n m) := by
  by_cases h : n < 2 ∨ STATES < n ∨ m = 0 ∨ GOODS < m
  · cases s with
    | some d =>
      show (some (act d (.start n m)).1, Km482Neutral.told (act d (.start n m)).2) = _
      unfold startS startA
      simp only [act, if_pos h]; rfl
    | none =>
      show (if (Km482Neutral.told (act (fresh 2 1) (.start n m)).2).headD 0 < 0 then none else some (act (fresh 2 1) (.start n m)).1, Km482Neutral.told (act (fresh 2 1) (.start n m)).2) = _
      unfold startS startA
      simp only [act, if_pos h]; rfl
  · cases s with
    | some d =>
      show (some (act d (.start n m)).1, Km482Neutral.told (act d (.start n m)).2) = _
      unfold startS startA
      simp only [act, if_neg h]; rfl
    | none =>
      show (if (Km482Neutral.told (act (fresh 2 1) (.start n m)).2).headD 0 < 0 then none else some (act (fresh 2 1) (.start n m)).1, Km482Neutral.told (act (fresh 2 1) (.start n m)).2) = _
      unfold startS startA
      simp only [act, if_neg h]; rfl
theorem ask_ans (d : Desk) {c : Call} (h : isQ c = true) : stepN (some d) c = (some d, ans d.now c) := by
  cases c <;> first | rfl | cases h
section
variable {P : Program} {w : World} {K : PySem.W.Frag} {mg : Str → Option Value} {base : Heap} {Cp Cl : Addr}
abbrev s_answer_question : Stmt := top 88
theorem sc_answer_question : FnScope ["pact", "call", "number"] ["pact", "call"] (defScope s_answer_question) := ⟨rfl, rfl, rfl, by decide +kernel, rfl, by decide +kernel, by decide +kernel⟩
def sp_answer_question (Cp : Addr) : Sp := fun vs H Q _ => ∃ v b l c, vs = [v, .ref l] ∧ isPact Cp H v b ∧ Good b ∧ H l = some (.lst ((enc c).map nv)) ∧ isQ c = true ∧ ∀ v' H', Same H H' → isAns H' v' (ans b c) → Q v' H'
theorem ok_answer_question {f : Addr} {fd : FuncData} (F : Fun K "answer_question" "answer_question" s_answer_question f fd) (T : Txt K mg Cp Cl) (C_mf_clause : Callee P w K mg base "mf_clause" 1 ["pact", "c"] (sp_mf_clause Cp)) (C_mf_laid : Callee P w K mg base "mf_laid" 4 ["pact", "i", "j", "g"] (sp_mf_laid Cp)) (C_mf_takes : Callee P w K mg base "mf_takes" 6 ["pact", "i", "j", "g"] (sp_mf_takes Cp)) (C_mf_row : Callee P w K mg base "mf_row" 6 ["pact", "i", "g"] (sp_mf_row Cp)) (C_mf_falls : Callee P w K mg base "mf_falls" 7 ["pact"] (sp_mf_falls Cp)) (C_mf_would : Callee P w K mg base "mf_would" 6 ["pact", "i", "j", "g", "x"] (sp_mf_would Cp)) (C_mf_why : Callee P w K mg base "mf_why" 7 ["pact", "i", "j", "g"] (sp_mf_why Cp)) (C_mf_moves : Callee P w K mg base "mf_moves" 7 ["pact", "i", "j", "g"] (sp_mf_moves Cp)) (C_mf_kept : Callee P w K mg base "mf_kept" 6 ["pact"] (sp_mf_kept Cp)) (C_mf_alike : Callee P w K mg base "mf_alike" 6 ["pact", "i", "g"] (sp_mf_alike Cp)) (C_mf_idle : Callee P w K mg base "mf_idle" 8 ["pact"] (sp_mf_idle Cp)) : FnOk P w K mg base CX0 9 f fd ["pact", "call"] (sp_answer_question Cp) := by
  refine F.ok sc_answer_question (fun vs H Q E h => ?_) (fun cdv A outer s H vs Q E hr h => ?_)
  · obtain ⟨v, b, l, c, rfl, _⟩ := h
    rfl
  · obtain ⟨v, b, l, c, rfl, hP, G, hl, hq, k⟩ := h
    refine ⟨_, (pss_cons (ps_set (i := 2) sc_answer_question.nd rfl (Or.inl rfl) (pe_ix ix_list (pv 1) pe_int (fun _ _ => rfl)))
      (pss_cons (ps_if (pt_cmpR op_eq (pv 2) pe_int (nomark _)) (pss_one (ps_ret (pe_callC C_mf_clause hr rfl (pa_cons (pv 0) (pa_cons (pe_ix ix_list (pv 1) pe_int (fun _ _ => rfl)) pa_nil))))) pss_nil)
      (pss_cons (ps_if (pt_cmpR op_eq (pv 2) pe_int (nomark _)) (pss_one (ps_ret (pe_callC C_mf_laid hr rfl (pa_cons (pv 0) (pa_cons (pe_ix ix_list (pv 1) pe_int (fun _ _ => rfl)) (pa_cons (pe_ix ix_list (pv 1) pe_int (fun _ _ => rfl)) (pa_cons (pe_ix ix_list (pv 1) pe_int (fun _ _ => rfl)) pa_nil))))))) pss_nil)
      (pss_cons (ps_if (pt_cmpR op_eq (pv 2) pe_int (nomark _)) (pss_one (ps_ret (pe_callC C_mf_takes hr rfl (pa_cons (pv 0) (pa_cons (pe_ix ix_list (pv 1) pe_int (fun _ _ => rfl)) (pa_cons (pe_ix ix_list (pv 1) pe_int (fun _ _ => rfl)) (pa_cons (pe_ix ix_list (pv 1) pe_int (fun _ _ => rfl)) pa_nil))))))) pss_nil)
      (pss_cons (ps_if (pt_cmpR op_eq (pv 2) pe_int (nomark _)) (pss_one (ps_ret (pe_callC C_mf_row hr rfl (pa_cons (pv 0) (pa_cons (pe_ix ix_list (pv 1) pe_int (fun _ _ => rfl)) (pa_cons (pe_ix ix_list (pv 1) pe_int (fun _ _ => rfl)) pa_nil)))))) pss_nil)
      (pss_cons (ps_if (pt_cmpR op_eq (pv 2) pe_int (nomark _)) (pss_one (ps_ret (pe_callC C_mf_falls hr rfl (pa_cons (pv 0) pa_nil)))) pss_nil)
      (pss_cons (ps_if (pt_cmpR op_eq (pv 2) pe_int (nomark _)) (pss_one (ps_ret (pe_callC C_mf_would hr rfl (pa_cons (pv 0) (pa_cons (pe_ix ix_list (pv 1) pe_int (fun _ _ => rfl)) (pa_cons (pe_ix ix_list (pv 1) pe_int (fun _ _ => rfl)) (pa_cons (pe_ix ix_list (pv 1) pe_int (fun _ _ => rfl)) (pa_cons (pe_ix ix_list (pv 1) pe_int (fun _ _ => rfl)) pa_nil)))))))) pss_nil)
      (pss_cons (ps_if (pt_cmpR op_eq (pv 2) pe_int (nomark _)) (pss_one (ps_ret (pe_callC C_mf_why hr rfl (pa_cons (pv 0) (pa_cons (pe_ix ix_list (pv 1) pe_int (fun _ _ => rfl)) (pa_cons (pe_ix ix_list (pv 1) pe_int (fun _ _ => rfl)) (pa_cons (pe_ix ix_list (pv 1) pe_int (fun _ _ => rfl)) pa_nil))))))) pss_nil)
      (pss_cons (ps_if (pt_cmpR op_eq (pv 2) pe_int (nomark _)) (pss_one (ps_ret (pe_callC C_mf_moves hr rfl (pa_cons (pv 0) (pa_cons (pe_ix ix_list (pv 1) pe_int (fun _ _ => rfl)) (pa_cons (pe_ix ix_list (pv 1) pe_int (fun _ _ => rfl)) (pa_cons (pe_ix ix_list (pv 1) pe_int (fun _ _ => rfl)) pa_nil))))))) pss_nil)
      (pss_cons (ps_if (pt_cmpR op_eq (pv 2) pe_int (nomark _)) (pss_one (ps_ret (pe_callC C_mf_kept hr rfl (pa_cons (pv 0) pa_nil)))) pss_nil)
      (pss_cons (ps_if (pt_cmpR op_eq (pv 2) pe_int (nomark _)) (pss_one (ps_ret (pe_callC C_mf_alike hr rfl (pa_cons (pv 0) (pa_cons (pe_ix ix_list (pv 1) pe_int (fun _ _ => rfl)) (pa_cons (pe_ix ix_list (pv 1) pe_int (fun _ _ => rfl)) pa_nil)))))) pss_nil)
      (pss_one (ps_ret (pe_callC C_mf_idle hr rfl (pa_cons (pv 0) pa_nil))))))))))))))), ?_⟩
    cases c with
    | start _ _ => cases hq
    | duty _ _ _ _ => cases hq
    | favour _ _ => cases hq
    | mirror _ _ => cases hq
    | follow _ _ _ => cases hq
    | drop _ => cases hq
    | clause c' =>
      refine ⟨_, rfl, l, _, _, _, rfl, rfl, SqL.of hl, atI_nat (j := 0) rfl, ?_⟩
      refine ⟨_, rfl, rfl, _, rfl, ?_⟩
      exact ⟨_, rfl, _, rfl, l, _, _, _, rfl, rfl, SqL.of hl, atI_nat (j := 1) rfl, v, b, c', rfl, hP, k⟩
    | union _ _ => cases hq
    | part _ _ => cases hq
    | laid i' j' g' =>
      refine ⟨_, rfl, l, _, _, _, rfl, rfl, SqL.of hl, atI_nat (j := 0) rfl, ?_⟩
      refine ⟨_, rfl, rfl, _, rfl, ?_⟩
      refine ⟨_, rfl, rfl, _, rfl, ?_⟩
      exact ⟨_, rfl, _, rfl, l, _, _, _, rfl, rfl, SqL.of hl, atI_nat (j := 1) rfl, _, rfl, l, _, _, _, rfl, rfl, SqL.of hl, atI_nat (j := 2) rfl, _, rfl, l, _, _, _, rfl, rfl, SqL.of hl, atI_nat (j := 3) rfl, v, b, i', j', g', rfl, hP, k⟩
    | takes i' j' g' =>
      refine ⟨_, rfl, l, _, _, _, rfl, rfl, SqL.of hl, atI_nat (j := 0) rfl, ?_⟩
      refine ⟨_, rfl, rfl, _, rfl, ?_⟩
      refine ⟨_, rfl, rfl, _, rfl, ?_⟩
      refine ⟨_, rfl, rfl, _, rfl, ?_⟩
      exact ⟨_, rfl, _, rfl, l, _, _, _, rfl, rfl, SqL.of hl, atI_nat (j := 1) rfl, _, rfl, l, _, _, _, rfl, rfl, SqL.of hl, atI_nat (j := 2) rfl, _, rfl, l, _, _, _, rfl, rfl, SqL.of hl, atI_nat (j := 3) rfl, v, b, i', j', g', rfl, hP, G, k⟩
    | row i' g' =>
      refine ⟨_, rfl, l, _, _, _, rfl, rfl, SqL.of hl, atI_nat (j := 0) rfl, ?_⟩
      refine ⟨_, rfl, rfl, _, rfl, ?_⟩
      refine ⟨_, rfl, rfl, _, rfl, ?_⟩
      refine ⟨_, rfl, rfl, _, rfl, ?_⟩
      refine ⟨_, rfl, rfl, _, rfl, ?_⟩
      exact ⟨_, rfl, _, rfl, l, _, _, _, rfl, rfl, SqL.of hl, atI_nat (j := 1) rfl, _, rfl, l, _, _, _, rfl, rfl, SqL.of hl, atI_nat (j := 2) rfl, v, b, i', g', rfl, hP, G, k⟩
    | falls =>
      refine ⟨_, rfl, l, _, _, _, rfl, rfl, SqL.of hl, atI_nat (j := 0) rfl, ?_⟩
      refine ⟨_, rfl, rfl, _, rfl, ?_⟩
      refine ⟨_, rfl, rfl, _, rfl, ?_⟩
      refine ⟨_, rfl, rfl, _, rfl, ?_⟩
      refine ⟨_, rfl, rfl, _, rfl, ?_⟩
      refine ⟨_, rfl, rfl, _, rfl, ?_⟩
      exact ⟨_, rfl, v, b, rfl, hP, G, k⟩
    | would i' j' g' x' =>
      refine ⟨_, rfl, l, _, _, _, rfl, rfl, SqL.of hl, atI_nat (j := 0) rfl, ?_⟩
      refine ⟨_, rfl, rfl, _, rfl, ?_⟩
      refine ⟨_, rfl, rfl, _, rfl, ?_⟩
      refine ⟨_, rfl, rfl, _, rfl, ?_⟩
      refine ⟨_, rfl, rfl, _, rfl, ?_⟩
      refine ⟨_, rfl, rfl, _, rfl, ?_⟩
      refine ⟨_, rfl, rfl, _, rfl, ?_⟩
      exact ⟨_, rfl, _, rfl, l, _, _, _, rfl, rfl, SqL.of hl, atI_nat (j := 1) rfl, _, rfl, l, _, _, _, rfl, rfl, SqL.of hl, atI_nat (j := 2) rfl, _, rfl, l, _, _, _, rfl, rfl, SqL.of hl, atI_nat (j := 3) rfl, _, rfl, l, _, _, _, rfl, rfl, SqL.of hl, atI_nat (j := 4) rfl, v, b, i', j', g', x', rfl, hP, G, k⟩
    | why i' j' g' =>
      refine ⟨_, rfl, l, _, _, _, rfl, rfl, SqL.of hl, atI_nat (j := 0) rfl, ?_⟩
      refine ⟨_, rfl, rfl, _, rfl, ?_⟩
      refine ⟨_, rfl, rfl, _, rfl, ?_⟩
      refine ⟨_, rfl, rfl, _, rfl, ?_⟩
      refine ⟨_, rfl, rfl, _, rfl, ?_⟩
      refine ⟨_, rfl, rfl, _, rfl, ?_⟩
      refine ⟨_, rfl, rfl, _, rfl, ?_⟩
      refine ⟨_, rfl, rfl, _, rfl, ?_⟩
      exact ⟨_, rfl, _, rfl, l, _, _, _, rfl, rfl, SqL.of hl, atI_nat (j := 1) rfl, _, rfl, l, _, _, _, rfl, rfl, SqL.of hl, atI_nat (j := 2) rfl, _, rfl, l, _, _, _, rfl, rfl, SqL.of hl, atI_nat (j := 3) rfl, v, b, i', j', g', rfl, hP, G, k⟩
    | moves i' j' g' =>
      refine ⟨_, rfl, l, _, _, _, rfl, rfl, SqL.of hl, atI_nat (j := 0) rfl, ?_⟩
      refine ⟨_, rfl, rfl, _, rfl, ?_⟩
      refine ⟨_, rfl, rfl, _, rfl, ?_⟩
      refine ⟨_, rfl, rfl, _, rfl, ?_⟩
      refine ⟨_, rfl, rfl, _, rfl, ?_⟩
      refine ⟨_, rfl, rfl, _, rfl, ?_⟩
      refine ⟨_, rfl, rfl, _, rfl, ?_⟩
      refine ⟨_, rfl, rfl, _, rfl, ?_⟩
      refine ⟨_, rfl, rfl, _, rfl, ?_⟩
      exact ⟨_, rfl, _, rfl, l, _, _, _, rfl, rfl, SqL.of hl, atI_nat (j := 1) rfl, _, rfl, l, _, _, _, rfl, rfl, SqL.of hl, atI_nat (j := 2) rfl, _, rfl, l, _, _, _, rfl, rfl, SqL.of hl, atI_nat (j := 3) rfl, v, b, i', j', g', rfl, hP, G, k⟩
    | kept =>
      refine ⟨_, rfl, l, _, _, _, rfl, rfl, SqL.of hl, atI_nat (j := 0) rfl, ?_⟩
      refine ⟨_, rfl, rfl, _, rfl, ?_⟩
      refine ⟨_, rfl, rfl, _, rfl, ?_⟩
      refine ⟨_, rfl, rfl, _, rfl, ?_⟩
      refine ⟨_, rfl, rfl, _, rfl, ?_⟩
      refine ⟨_, rfl, rfl, _, rfl, ?_⟩
      refine ⟨_, rfl, rfl, _, rfl, ?_⟩
      refine ⟨_, rfl, rfl, _, rfl, ?_⟩
      refine ⟨_, rfl, rfl, _, rfl, ?_⟩
      refine ⟨_, rfl, rfl, _, rfl, ?_⟩
      exact ⟨_, rfl, v, b, rfl, hP, G, k⟩
    | settle => cases hq
    | alike i' g' =>
      refine ⟨_, rfl, l, _, _, _, rfl, rfl, SqL.of hl, atI_nat (j := 0) rfl, ?_⟩
      refine ⟨_, rfl, rfl, _, rfl, ?_⟩
      refine ⟨_, rfl, rfl, _, rfl, ?_⟩
      refine ⟨_, rfl, rfl, _, rfl, ?_⟩
      refine ⟨_, rfl, rfl, _, rfl, ?_⟩
      refine ⟨_, rfl, rfl, _, rfl, ?_⟩
      refine ⟨_, rfl, rfl, _, rfl, ?_⟩
      refine ⟨_, rfl, rfl, _, rfl, ?_⟩
      refine ⟨_, rfl, rfl, _, rfl, ?_⟩
      refine ⟨_, rfl, rfl, _, rfl, ?_⟩
      refine ⟨_, rfl, rfl, _, rfl, ?_⟩
      exact ⟨_, rfl, _, rfl, l, _, _, _, rfl, rfl, SqL.of hl, atI_nat (j := 1) rfl, _, rfl, l, _, _, _, rfl, rfl, SqL.of hl, atI_nat (j := 2) rfl, v, b, i', g', rfl, hP, G, k⟩
    | idle =>
      refine ⟨_, rfl, l, _, _, _, rfl, rfl, SqL.of hl, atI_nat (j := 0) rfl, ?_⟩
      refine ⟨_, rfl, rfl, _, rfl, ?_⟩
      refine ⟨_, rfl, rfl, _, rfl, ?_⟩
      refine ⟨_, rfl, rfl, _, rfl, ?_⟩
      refine ⟨_, rfl, rfl, _, rfl, ?_⟩
      refine ⟨_, rfl, rfl, _, rfl, ?_⟩
      refine ⟨_, rfl, rfl, _, rfl, ?_⟩
      refine ⟨_, rfl, rfl, _, rfl, ?_⟩
      refine ⟨_, rfl, rfl, _, rfl, ?_⟩
      refine ⟨_, rfl, rfl, _, rfl, ?_⟩
      refine ⟨_, rfl, rfl, _, rfl, ?_⟩
      exact ⟨_, rfl, v, b, rfl, hP, G, k⟩
    | back => cases hq
    | again => cases hq
    | state => cases hq
abbrev s_answer_change : Stmt := top 90
theorem sc_answer_change : FnScope ["ledger", "call", "number"] ["ledger", "call"] (defScope s_answer_change) := ⟨rfl, rfl, rfl, by decide +kernel, rfl, by decide +kernel, by decide +kernel⟩
def sp_answer_change (Cp Cl : Addr) : Sp := fun vs H Q _ => ∃ a pa ua s l c, vs = [.ref a, .ref l] ∧ Led Cp Cl H a pa ua s ∧ (∀ d, s = some d → GoodD d) ∧ (s = none → Km482Neutral.isStart c = true) ∧ H l = some (.lst ((enc c).map nv)) ∧ isQ c = false ∧ isH c = false ∧ ∀ v' H', Next Cp Cl H H' a pa ua (stepN s c).1 → isAns H' v' (stepN s c).2 → Q v' H'
theorem ok_answer_change {f : Addr} {fd : FuncData} (F : Fun K "answer_change" "answer_change" s_answer_change f fd) (T : Txt K mg Cp Cl) (C_mf_start : Callee P w K mg base "mf_start" 4 ["ledger", "n", "m"] (sp_mf_start Cp Cl)) (C_mf_duty : Callee P w K mg base "mf_duty" 5 ["ledger", "i", "j", "g", "x"] (sp_mf_duty Cp Cl)) (C_mf_favour : Callee P w K mg base "mf_favour" 6 ["ledger", "i", "j"] (sp_mf_favour Cp Cl)) (C_mf_mirror : Callee P w K mg base "mf_mirror" 6 ["ledger", "i", "j"] (sp_mf_mirror Cp Cl)) (C_mf_follow : Callee P w K mg base "mf_follow" 5 ["ledger", "i", "j", "k"] (sp_mf_follow Cp Cl)) (C_mf_drop : Callee P w K mg base "mf_drop" 5 ["ledger", "c"] (sp_mf_drop Cp Cl)) (C_mf_union : Callee P w K mg base "mf_union" 4 ["ledger", "i", "j"] (sp_mf_union Cp Cl)) (C_mf_part : Callee P w K mg base "mf_part" 4 ["ledger", "i", "j"] (sp_mf_part Cp Cl)) (C_mf_settle : Callee P w K mg base "mf_settle" 7 ["ledger"] (sp_mf_settle Cp Cl)) : FnOk P w K mg base CX0 8 f fd ["ledger", "call"] (sp_answer_change Cp Cl) := by
  refine F.ok sc_answer_change (fun vs H Q E h => ?_) (fun cdv A outer s H vs Q E hr h => ?_)
  · obtain ⟨a, pa, ua, s, l, c, rfl, _⟩ := h
    rfl
  · obtain ⟨a, pa, ua, s, l, c, rfl, L, G, hs, hl, hq, hh, k⟩ := h
    refine ⟨_, (pss_cons (ps_set (i := 2) sc_answer_change.nd rfl (Or.inl rfl) (pe_ix ix_list (pv 1) pe_int (fun _ _ => rfl)))
      (pss_cons (ps_if (pt_cmpR op_eq (pv 2) pe_int (nomark _)) (pss_one (ps_ret (pe_callC C_mf_start hr rfl (pa_cons (pv 0) (pa_cons (pe_ix ix_list (pv 1) pe_int (fun _ _ => rfl)) (pa_cons (pe_ix ix_list (pv 1) pe_int (fun _ _ => rfl)) pa_nil)))))) pss_nil)
      (pss_cons (ps_if (pt_cmpR op_eq (pv 2) pe_int (nomark _)) (pss_one (ps_ret (pe_callC C_mf_duty hr rfl (pa_cons (pv 0) (pa_cons (pe_ix ix_list (pv 1) pe_int (fun _ _ => rfl)) (pa_cons (pe_ix ix_list (pv 1) pe_int (fun _ _ => rfl)) (pa_cons (pe_ix ix_list (pv 1) pe_int (fun _ _ => rfl)) (pa_cons (pe_ix ix_list (pv 1) pe_int (fun _ _ => rfl)) pa_nil)))))))) pss_nil)
      (pss_cons (ps_if (pt_cmpR op_eq (pv 2) pe_int (nomark _)) (pss_one (ps_ret (pe_callC C_mf_favour hr rfl (pa_cons (pv 0) (pa_cons (pe_ix ix_list (pv 1) pe_int (fun _ _ => rfl)) (pa_cons (pe_ix ix_list (pv 1) pe_int (fun _ _ => rfl)) pa_nil)))))) pss_nil)
      (pss_cons (ps_if (pt_cmpR op_eq (pv 2) pe_int (nomark _)) (pss_one (ps_ret (pe_callC C_mf_mirror hr rfl (pa_cons (pv 0) (pa_cons (pe_ix ix_list (pv 1) pe_int (fun _ _ => rfl)) (pa_cons (pe_ix ix_list (pv 1) pe_int (fun _ _ => rfl)) pa_nil)))))) pss_nil)
      (pss_cons (ps_if (pt_cmpR op_eq (pv 2) pe_int (nomark _)) (pss_one (ps_ret (pe_callC C_mf_follow hr rfl (pa_cons (pv 0) (pa_cons (pe_ix ix_list (pv 1) pe_int (fun _ _ => rfl)) (pa_cons (pe_ix ix_list (pv 1) pe_int (fun _ _ => rfl)) (pa_cons (pe_ix ix_list (pv 1) pe_int (fun _ _ => rfl)) pa_nil))))))) pss_nil)
      (pss_cons (ps_if (pt_cmpR op_eq (pv 2) pe_int (nomark _)) (pss_one (ps_ret (pe_callC C_mf_drop hr rfl (pa_cons (pv 0) (pa_cons (pe_ix ix_list (pv 1) pe_int (fun _ _ => rfl)) pa_nil))))) pss_nil)
      (pss_cons (ps_if (pt_cmpR op_eq (pv 2) pe_int (nomark _)) (pss_one (ps_ret (pe_callC C_mf_union hr rfl (pa_cons (pv 0) (pa_cons (pe_ix ix_list (pv 1) pe_int (fun _ _ => rfl)) (pa_cons (pe_ix ix_list (pv 1) pe_int (fun _ _ => rfl)) pa_nil)))))) pss_nil)
      (pss_cons (ps_if (pt_cmpR op_eq (pv 2) pe_int (nomark _)) (pss_one (ps_ret (pe_callC C_mf_part hr rfl (pa_cons (pv 0) (pa_cons (pe_ix ix_list (pv 1) pe_int (fun _ _ => rfl)) (pa_cons (pe_ix ix_list (pv 1) pe_int (fun _ _ => rfl)) pa_nil)))))) pss_nil)
      (pss_one (ps_ret (pe_callC C_mf_settle hr rfl (pa_cons (pv 0) pa_nil))))))))))))), ?_⟩
    cases c with
    | start n' m' =>
      refine ⟨_, rfl, l, _, _, _, rfl, rfl, SqL.of hl, atI_nat (j := 0) rfl, ?_⟩
      refine ⟨_, rfl, rfl, _, rfl, ?_⟩
      rw [step_start] at k
      exact ⟨_, rfl, _, rfl, l, _, _, _, rfl, rfl, SqL.of hl, atI_nat (j := 1) rfl, _, rfl, l, _, _, _, rfl, rfl, SqL.of hl, atI_nat (j := 2) rfl, a, pa, ua, s, n', m', rfl, L, k⟩
    | duty i' j' g' x' =>
      cases s with
      | none => cases hs rfl
      | some d =>
        refine ⟨_, rfl, l, _, _, _, rfl, rfl, SqL.of hl, atI_nat (j := 0) rfl, ?_⟩
        refine ⟨_, rfl, rfl, _, rfl, ?_⟩
        refine ⟨_, rfl, rfl, _, rfl, ?_⟩
        exact ⟨_, rfl, _, rfl, l, _, _, _, rfl, rfl, SqL.of hl, atI_nat (j := 1) rfl, _, rfl, l, _, _, _, rfl, rfl, SqL.of hl, atI_nat (j := 2) rfl, _, rfl, l, _, _, _, rfl, rfl, SqL.of hl, atI_nat (j := 3) rfl, _, rfl, l, _, _, _, rfl, rfl, SqL.of hl, atI_nat (j := 4) rfl, a, pa, ua, d, i', j', g', x', rfl, L, G d rfl, fun v' H' D => k v' H' D.1 D.2⟩
    | favour i' j' =>
      cases s with
      | none => cases hs rfl
      | some d =>
        refine ⟨_, rfl, l, _, _, _, rfl, rfl, SqL.of hl, atI_nat (j := 0) rfl, ?_⟩
        refine ⟨_, rfl, rfl, _, rfl, ?_⟩
        refine ⟨_, rfl, rfl, _, rfl, ?_⟩
        refine ⟨_, rfl, rfl, _, rfl, ?_⟩
        exact ⟨_, rfl, _, rfl, l, _, _, _, rfl, rfl, SqL.of hl, atI_nat (j := 1) rfl, _, rfl, l, _, _, _, rfl, rfl, SqL.of hl, atI_nat (j := 2) rfl, a, pa, ua, d, i', j', rfl, L, G d rfl, fun v' H' D => k v' H' D.1 D.2⟩
    | mirror i' j' =>
      cases s with
      | none => cases hs rfl
      | some d =>
        refine ⟨_, rfl, l, _, _, _, rfl, rfl, SqL.of hl, atI_nat (j := 0) rfl, ?_⟩
        refine ⟨_, rfl, rfl, _, rfl, ?_⟩
        refine ⟨_, rfl, rfl, _, rfl, ?_⟩
        refine ⟨_, rfl, rfl, _, rfl, ?_⟩
        refine ⟨_, rfl, rfl, _, rfl, ?_⟩
        exact ⟨_, rfl, _, rfl, l, _, _, _, rfl, rfl, SqL.of hl, atI_nat (j := 1) rfl, _, rfl, l, _, _, _, rfl, rfl, SqL.of hl, atI_nat (j := 2) rfl, a, pa, ua, d, i', j', rfl, L, G d rfl, fun v' H' D => k v' H' D.1 D.2⟩
    | follow i' j' k' =>
      cases s with
      | none => cases hs rfl
      | some d =>
        refine ⟨_, rfl, l, _, _, _, rfl, rfl, SqL.of hl, atI_nat (j := 0) rfl, ?_⟩
        refine ⟨_, rfl, rfl, _, rfl, ?_⟩
        refine ⟨_, rfl, rfl, _, rfl, ?_⟩
        refine ⟨_, rfl, rfl, _, rfl, ?_⟩
        refine ⟨_, rfl, rfl, _, rfl, ?_⟩
        refine ⟨_, rfl, rfl, _, rfl, ?_⟩
        exact ⟨_, rfl, _, rfl, l, _, _, _, rfl, rfl, SqL.of hl, atI_nat (j := 1) rfl, _, rfl, l, _, _, _, rfl, rfl, SqL.of hl, atI_nat (j := 2) rfl, _, rfl, l, _, _, _, rfl, rfl, SqL.of hl, atI_nat (j := 3) rfl, a, pa, ua, d, i', j', k', rfl, L, G d rfl, fun v' H' D => k v' H' D.1 D.2⟩
    | drop c' =>
      cases s with
      | none => cases hs rfl
      | some d =>
        refine ⟨_, rfl, l, _, _, _, rfl, rfl, SqL.of hl, atI_nat (j := 0) rfl, ?_⟩
        refine ⟨_, rfl, rfl, _, rfl, ?_⟩
        refine ⟨_, rfl, rfl, _, rfl, ?_⟩
        refine ⟨_, rfl, rfl, _, rfl, ?_⟩
        refine ⟨_, rfl, rfl, _, rfl, ?_⟩
        refine ⟨_, rfl, rfl, _, rfl, ?_⟩
        refine ⟨_, rfl, rfl, _, rfl, ?_⟩
        exact ⟨_, rfl, _, rfl, l, _, _, _, rfl, rfl, SqL.of hl, atI_nat (j := 1) rfl, a, pa, ua, d, c', rfl, L, G d rfl, fun v' H' D => k v' H' D.1 D.2⟩
    | clause _ => cases hq
    | union i' j' =>
      cases s with
      | none => cases hs rfl
      | some d =>
        refine ⟨_, rfl, l, _, _, _, rfl, rfl, SqL.of hl, atI_nat (j := 0) rfl, ?_⟩
        refine ⟨_, rfl, rfl, _, rfl, ?_⟩
        refine ⟨_, rfl, rfl, _, rfl, ?_⟩
        refine ⟨_, rfl, rfl, _, rfl, ?_⟩
        refine ⟨_, rfl, rfl, _, rfl, ?_⟩
        refine ⟨_, rfl, rfl, _, rfl, ?_⟩
        refine ⟨_, rfl, rfl, _, rfl, ?_⟩
        refine ⟨_, rfl, rfl, _, rfl, ?_⟩
        exact ⟨_, rfl, _, rfl, l, _, _, _, rfl, rfl, SqL.of hl, atI_nat (j := 1) rfl, _, rfl, l, _, _, _, rfl, rfl, SqL.of hl, atI_nat (j := 2) rfl, a, pa, ua, d, i', j', rfl, L, G d rfl, fun v' H' D => k v' H' D.1 D.2⟩
    | part i' j' =>
      cases s with
      | none => cases hs rfl
      | some d =>
        refine ⟨_, rfl, l, _, _, _, rfl, rfl, SqL.of hl, atI_nat (j := 0) rfl, ?_⟩
        refine ⟨_, rfl, rfl, _, rfl, ?_⟩
        refine ⟨_, rfl, rfl, _, rfl, ?_⟩
        refine ⟨_, rfl, rfl, _, rfl, ?_⟩
        refine ⟨_, rfl, rfl, _, rfl, ?_⟩
        refine ⟨_, rfl, rfl, _, rfl, ?_⟩
        refine ⟨_, rfl, rfl, _, rfl, ?_⟩
        refine ⟨_, rfl, rfl, _, rfl, ?_⟩
        refine ⟨_, rfl, rfl, _, rfl, ?_⟩
        exact ⟨_, rfl, _, rfl, l, _, _, _, rfl, rfl, SqL.of hl, atI_nat (j := 1) rfl, _, rfl, l, _, _, _, rfl, rfl, SqL.of hl, atI_nat (j := 2) rfl, a, pa, ua, d, i', j', rfl, L, G d rfl, fun v' H' D => k v' H' D.1 D.2⟩
    | laid _ _ _ => cases hq
    | takes _ _ _ => cases hq
    | row _ _ => cases hq
    | falls => cases hq
    | would _ _ _ _ => cases hq
    | why _ _ _ => cases hq
    | moves _ _ _ => cases hq
    | kept => cases hq
    | settle =>
      cases s with
      | none => cases hs rfl
      | some d =>
        refine ⟨_, rfl, l, _, _, _, rfl, rfl, SqL.of hl, atI_nat (j := 0) rfl, ?_⟩
        refine ⟨_, rfl, rfl, _, rfl, ?_⟩
        refine ⟨_, rfl, rfl, _, rfl, ?_⟩
        refine ⟨_, rfl, rfl, _, rfl, ?_⟩
        refine ⟨_, rfl, rfl, _, rfl, ?_⟩
        refine ⟨_, rfl, rfl, _, rfl, ?_⟩
        refine ⟨_, rfl, rfl, _, rfl, ?_⟩
        refine ⟨_, rfl, rfl, _, rfl, ?_⟩
        refine ⟨_, rfl, rfl, _, rfl, ?_⟩
        exact ⟨_, rfl, a, pa, ua, d, rfl, L, G d rfl, fun v' H' D => k v' H' D.1 D.2⟩
    | alike _ _ => cases hq
    | idle => cases hq
    | back => cases hh
    | again => cases hh
    | state => cases hh
abbrev s_answer_of_history : Stmt := top 89
theorem sc_answer_of_history : FnScope ["ledger", "call", "number"] ["ledger", "call"] (defScope s_answer_of_history) := ⟨rfl, rfl, rfl, by decide +kernel, rfl, by decide +kernel, by decide +kernel⟩
def sp_answer_of_history (Cp Cl : Addr) : Sp := fun vs H Q _ => ∃ a pa ua d l c, vs = [.ref a, .ref l] ∧ Led Cp Cl H a pa ua (some d) ∧ GoodD d ∧ H l = some (.lst ((enc c).map nv)) ∧ isH c = true ∧ ∀ v' H', Next Cp Cl H H' a pa ua (stepN (some d) c).1 → isAns H' v' (stepN (some d) c).2 → Q v' H'
theorem ok_answer_of_history {f : Addr} {fd : FuncData} (F : Fun K "answer_of_history" "answer_of_history" s_answer_of_history f fd) (T : Txt K mg Cp Cl) (C_mf_back : Callee P w K mg base "mf_back" 2 ["ledger"] (sp_mf_back Cp Cl)) (C_mf_again : Callee P w K mg base "mf_again" 2 ["ledger"] (sp_mf_again Cp Cl)) (C_mf_state : Callee P w K mg base "mf_state" 1 ["ledger"] (sp_mf_state Cp Cl)) : FnOk P w K mg base CX0 3 f fd ["ledger", "call"] (sp_answer_of_history Cp Cl) := by
  refine F.ok sc_answer_of_history (fun vs H Q E h => ?_) (fun cdv A outer s H vs Q E hr h => ?_)
  · obtain ⟨a, pa, ua, d, l, c, rfl, _⟩ := h
    rfl
  · obtain ⟨a, pa, ua, d, l, c, rfl, L, G, hl, hh, k⟩ := h
    refine ⟨_, (pss_cons (ps_set (i := 2) sc_answer_of_history.nd rfl (Or.inl rfl) (pe_ix ix_list (pv 1) pe_int (fun _ _ => rfl)))
      (pss_cons (ps_if (pt_cmpR op_eq (pv 2) pe_int (nomark _)) (pss_one (ps_ret (pe_callC C_mf_back hr rfl (pa_cons (pv 0) pa_nil)))) pss_nil)
      (pss_cons (ps_if (pt_cmpR op_eq (pv 2) pe_int (nomark _)) (pss_one (ps_ret (pe_callC C_mf_again hr rfl (pa_cons (pv 0) pa_nil)))) pss_nil)
      (pss_one (ps_ret (pe_callC C_mf_state hr rfl (pa_cons (pv 0) pa_nil))))))), ?_⟩
    cases c with
    | start _ _ => cases hh
    | duty _ _ _ _ => cases hh
    | favour _ _ => cases hh
    | mirror _ _ => cases hh
    | follow _ _ _ => cases hh
    | drop _ => cases hh
    | clause _ => cases hh
    | union _ _ => cases hh
    | part _ _ => cases hh
    | laid _ _ _ => cases hh
    | takes _ _ _ => cases hh
    | row _ _ => cases hh
    | falls => cases hh
    | would _ _ _ _ => cases hh
    | why _ _ _ => cases hh
    | moves _ _ _ => cases hh
    | kept => cases hh
    | settle => cases hh
    | alike _ _ => cases hh
    | idle => cases hh
    | back =>
      refine ⟨_, rfl, l, _, _, _, rfl, rfl, SqL.of hl, atI_nat (j := 0) rfl, ?_⟩
      refine ⟨_, rfl, rfl, _, rfl, ?_⟩
      exact ⟨_, rfl, a, pa, ua, d, rfl, L, G, fun v' H' D => k v' H' D.1 D.2⟩
    | again =>
      refine ⟨_, rfl, l, _, _, _, rfl, rfl, SqL.of hl, atI_nat (j := 0) rfl, ?_⟩
      refine ⟨_, rfl, rfl, _, rfl, ?_⟩
      refine ⟨_, rfl, rfl, _, rfl, ?_⟩
      exact ⟨_, rfl, a, pa, ua, d, rfl, L, G, fun v' H' D => k v' H' D.1 D.2⟩
    | state =>
      refine ⟨_, rfl, l, _, _, _, rfl, rfl, SqL.of hl, atI_nat (j := 0) rfl, ?_⟩
      refine ⟨_, rfl, rfl, _, rfl, ?_⟩
      refine ⟨_, rfl, rfl, _, rfl, ?_⟩
      exact ⟨_, rfl, a, pa, ua, d, rfl, L, G, fun v' H' D => k v' H' D.1 D.2⟩
end
end Mf

namespace Mf
open PySem PySem.Spec PyProof.Rows L2 Km482
/-! ### the calls, as they are handed in -/
def num (c : Call) : Nat := (enc c).headD 0
theorem enc_num (c : Call) : ((enc c).map nv)[0]? = some (nv (num c)) := by cases c <;> rfl
theorem in_questions (c : Call) : inV (nv (num c)) (questions.map nv) = isQ c := by cases c <;> rfl
theorem in_history (c : Call) : inV (nv (num c)) (ofTheHistory.map nv) = isH c := by cases c <;> rfl
theorem behind_num (c : Call) : (numbersBehind.map nv)[num c]? = some (nv ((enc c).length - 1)) := by cases c <;> rfl
theorem whole_one (p : Int) (xs : List Int) : PyKm482.whole [p :: xs] = [p :: xs] := by
  rcases p with n | n
  · rcases n with _ | _ | _ | _ | _ | _ | _ | _ | _ | _ | _ | _ | _ | _ | _ | _ | _ | _ | _ | _ | _ | _ | _ | n <;> rcases xs with _ | ⟨_, _ | ⟨_, _ | ⟨_, _ | ⟨_, _ | ⟨_, _⟩⟩⟩⟩⟩ <;> rfl
  · rfl
theorem whole_id (c : List (List Int)) : PyKm482.whole c = c := by
  rcases c with _ | ⟨_ | ⟨p, xs⟩, _ | ⟨y, ys⟩⟩
  · rfl
  · rfl
  · rfl
  · exact whole_one p xs
  · rcases p with n | n
    · rcases n with _ | _ | _ | _ | _ | _ | _ | _ | _ | _ | _ | _ | _ | _ | _ | _ | _ | _ | _ | _ | _ | _ | _ | n <;> rcases xs with _ | ⟨_, _ | ⟨_, _ | ⟨_, _ | ⟨_, _ | ⟨_, _⟩⟩⟩⟩⟩ <;> rfl
    · rfl
theorem nat_of {z : Int} (h : Km482Neutral.natural z 32 = true) : z = ((z.toNat : Nat) : Int) := by
  unfold Km482Neutral.natural at h
  rw [Bool.and_eq_true, decide_eq_true_iff] at h
  omega
/-- a call's numbers behind its own: none to four -/
theorem enc0 {x : List Int} {c : Call} {k : Nat} (a : Km482Neutral.callOf [x] = some c) (e : enc c = [k]) (h : x = [(k : Int)]) : ∃ c, Km482Neutral.callOf [x] = some c ∧ x = (enc c).map fun (n : Nat) => (n : Int) := ⟨c, a, by rw [e, h]; rfl⟩
theorem enc1 {k : Nat} {b : Int} {c : Call} (a : Km482Neutral.callOf [[(k : Int), b]] = some c) (e : enc c = [k, b.toNat]) (h : Km482Neutral.natural b 32 = true) : ∃ c, Km482Neutral.callOf [[(k : Int), b]] = some c ∧ [(k : Int), b] = (enc c).map fun (n : Nat) => (n : Int) := ⟨c, a, by rw [e]; simp only [List.map_cons, List.map_nil]; rw [← nat_of h]⟩
theorem enc2 {k : Nat} {b d : Int} {c : Call} (a : Km482Neutral.callOf [[(k : Int), b, d]] = some c) (e : enc c = [k, b.toNat, d.toNat]) (h : (Km482Neutral.natural b 32 && Km482Neutral.natural d 32) = true) : ∃ c, Km482Neutral.callOf [[(k : Int), b, d]] = some c ∧ [(k : Int), b, d] = (enc c).map fun (n : Nat) => (n : Int) := ⟨c, a, by
  rw [Bool.and_eq_true] at h
  rw [e]; simp only [List.map_cons, List.map_nil]; rw [← nat_of h.1, ← nat_of h.2]⟩
theorem enc3 {k : Nat} {b d f : Int} {c : Call} (a : Km482Neutral.callOf [[(k : Int), b, d, f]] = some c) (e : enc c = [k, b.toNat, d.toNat, f.toNat]) (h : (Km482Neutral.natural b 32 && Km482Neutral.natural d 32 && Km482Neutral.natural f 32) = true) : ∃ c, Km482Neutral.callOf [[(k : Int), b, d, f]] = some c ∧ [(k : Int), b, d, f] = (enc c).map fun (n : Nat) => (n : Int) := ⟨c, a, by
  rw [Bool.and_eq_true, Bool.and_eq_true] at h
  rw [e]; simp only [List.map_cons, List.map_nil]; rw [← nat_of h.1.1, ← nat_of h.1.2, ← nat_of h.2]⟩
theorem enc4 {k : Nat} {b d f g : Int} {c : Call} (a : Km482Neutral.callOf [[(k : Int), b, d, f, g]] = some c) (e : enc c = [k, b.toNat, d.toNat, f.toNat, g.toNat]) (h : (Km482Neutral.natural b 32 && Km482Neutral.natural d 32 && Km482Neutral.natural f 32 && Km482Neutral.natural g 32) = true) : ∃ c, Km482Neutral.callOf [[(k : Int), b, d, f, g]] = some c ∧ [(k : Int), b, d, f, g] = (enc c).map fun (n : Nat) => (n : Int) := ⟨c, a, by
  rw [Bool.and_eq_true, Bool.and_eq_true, Bool.and_eq_true] at h
  rw [e]; simp only [List.map_cons, List.map_nil]; rw [← nat_of h.1.1.1, ← nat_of h.1.1.2, ← nat_of h.1.2, ← nat_of h.2]⟩
theorem asked_enc {x : List Int} (h : Km482Neutral.asked1 [x] = true) : ∃ c, Km482Neutral.callOf [x] = some c ∧ x = (enc c).map fun (n : Nat) => (n : Int) := by
  rcases x with _ | ⟨p, xs⟩
  · exact absurd h (by decide)
  rcases p with n | n
  · rcases n with _ | _ | _ | _ | _ | _ | _ | _ | _ | _ | _ | _ | _ | _ | _ | _ | _ | _ | _ | _ | _ | _ | _ | n <;> rcases xs with _ | ⟨_, _ | ⟨_, _ | ⟨_, _ | ⟨_, _ | ⟨_, _⟩⟩⟩⟩⟩ <;> first
      | exact Bool.noConfusion h
      | exact enc0 (k := _) rfl rfl rfl
      | exact enc1 (k := _) rfl rfl h
      | exact enc2 (k := _) rfl rfl h
      | exact enc3 (k := _) rfl rfl h
      | exact enc4 (k := _) rfl rfl h
  · exact Bool.noConfusion h
theorem step_of {s : Km482Neutral.S} {x : List Int} {c : Call} (h : Km482Neutral.callOf [x] = some c) : Km482Neutral.step s [x] = stepN s c := by
  unfold Km482Neutral.step
  rw [h]
  cases s with
  | some d => rfl
  | none =>
    show (if Km482Neutral.isStart c = true then _ else _) = (if Km482Neutral.isStart c = true then _ else _)
    rfl
def GoodS (s : Km482Neutral.S) : Prop := ∀ d, s = some d → GoodD d
theorem good_fresh21 : GoodD (Km482.fresh 2 1) := ⟨good_fresh (by omega) (by omega) (by omega) (by omega), fun b hb => by simp [Km482.fresh] at hb, fun b hb => by simp [Km482.fresh] at hb, by simp [Km482.fresh]⟩
theorem good_step {s : Km482Neutral.S} (G : GoodS s) (c : Call) : GoodS (stepN s c).1 := by
  cases s with
  | some d =>
    intro d' e
    have e : some (act d c).1 = some d' := e
    cases e
    exact act_good (G d rfl) c
  | none =>
    intro d' e
    unfold stepN at e
    by_cases h : Km482Neutral.isStart c = true
    · simp only [if_pos h] at e
      by_cases h2 : (Km482Neutral.told (act (Km482.fresh 2 1) c).2).headD 0 < 0
      · rw [if_pos h2] at e; cases e
      · rw [if_neg h2] at e
        cases e
        exact act_good good_fresh21 c
    · simp only [if_neg h] at e
      cases e
section
variable {P : Program} {w : World} {K : PySem.W.Frag} {mg : Str → Option Value} {base : Heap} {Cp Cl : Addr}
abbrev s_answer_call : Stmt := top 87
theorem sc_answer_call : FnScope ["ledger", "call"] ["ledger", "call"] (defScope s_answer_call) := ⟨rfl, rfl, rfl, by decide +kernel, rfl, by decide +kernel, by decide +kernel⟩
def sp_answer_call (Cp Cl : Addr) : Sp := fun vs H Q _ => ∃ a pa ua s l c, vs = [.ref a, .ref l] ∧ Led Cp Cl H a pa ua s ∧ GoodS s ∧ (s = none → Km482Neutral.isStart c = true) ∧ H l = some (.lst ((enc c).map nv)) ∧ ∀ v' H', Next Cp Cl H H' a pa ua (stepN s c).1 → isAns H' v' (stepN s c).2 → Q v' H'
theorem start_q {c : Call} (h : Km482Neutral.isStart c = true) : isQ c = false ∧ isH c = false := by
  cases c <;> first | exact ⟨rfl, rfl⟩ | cases h
theorem ok_answer_call {f : Addr} {fd : FuncData} (F : Fun K "answer_call" "answer_call" s_answer_call f fd) (T : Txt K mg Cp Cl) (C_answer_question : Callee P w K mg base "answer_question" 9 ["pact", "call"] (sp_answer_question Cp)) (C_answer_of_history : Callee P w K mg base "answer_of_history" 3 ["ledger", "call"] (sp_answer_of_history Cp Cl)) (C_answer_change : Callee P w K mg base "answer_change" 8 ["ledger", "call"] (sp_answer_change Cp Cl)) : FnOk P w K mg base CX0 10 f fd ["ledger", "call"] (sp_answer_call Cp Cl) := by
  refine F.ok sc_answer_call (fun vs H Q E h => ?_) (fun cdv A outer s H vs Q E hr h => ?_)
  · obtain ⟨a, pa, ua, s, l, c, rfl, _⟩ := h
    rfl
  · obtain ⟨a, pa, ua, s, l, c, rfl, L, G, hs, hl, k⟩ := h
    obtain ⟨qa, eqa, hqa⟩ := T.g_QUESTIONS
    obtain ⟨ha', eha, hha⟩ := T.g_OF_THE_HISTORY
    refine ⟨_, (pss_cons (ps_if (pt_cmpR op_in_seq (pe_ix ix_list (pv 1) pe_int (fun _ _ => rfl)) (pe_gr rfl eqa) (by with_unfolding_all rfl)) (pss_one (ps_ret (pe_callC C_answer_question hr rfl (pa_cons (pe_fld (pv 0) rfl) (pa_cons (pv 1) pa_nil))))) pss_nil)
      (pss_cons (ps_if (pt_cmpR op_in_seq (pe_ix ix_list (pv 1) pe_int (fun _ _ => rfl)) (pe_gr rfl eha) (by with_unfolding_all rfl)) (pss_one (ps_ret (pe_callC C_answer_of_history hr rfl (pa_cons (pv 0) (pa_cons (pv 1) pa_nil))))) pss_nil)
      (pss_one (ps_ret (pe_callC C_answer_change hr rfl (pa_cons (pv 0) (pa_cons (pv 1) pa_nil))))))), ?_⟩
    refine ⟨_, rfl, l, _, _, _, rfl, rfl, SqL.of hl, atI_nat (j := 0) (enc_num c), qa, _, rfl, .inr (hqa H), rfl, by decide, _, rfl, ?_⟩
    show if inV (nv (num c)) (questions.map nv) = true then _ else _
    rw [in_questions]
    refine ite2 (fun e => ?_) (fun e => ?_)
    · cases s with
      | none => rw [(start_q (hs rfl)).1] at e; cases e
      | some d =>
        have L0 := L
        obtain ⟨dx, vp, pvs, uvs, ha, hpa, hua, npu, h1', h2', h3'⟩ := L0
        have hP := st_Pact T.ne _ _ _ _ (Keep.of (Cl := Cl) (off_same H pa ua)) h1'
        refine ⟨_, rfl, a, Cl, dx, _, _, rfl, ha, T.cl_Ledger, T.a_pact, rfl, _, rfl, vp, d.now, l, c, rfl, hP, (G d rfl).now, hl, e, fun v' H' s1 A => ?_⟩
        rw [ask_ans d e] at k
        exact k v' H' (Next.stay T.ne s1 L) A
    have e : isQ c = false := by simpa using e
    refine ⟨_, rfl, l, _, _, _, rfl, rfl, SqL.of hl, atI_nat (j := 0) (enc_num c), ha', _, rfl, .inr (hha H), rfl, by decide, _, rfl, ?_⟩
    show if inV (nv (num c)) (ofTheHistory.map nv) = true then _ else _
    rw [in_history]
    refine ite2 (fun e2 => ?_) (fun e2 => ?_)
    · cases s with
      | none => rw [(start_q (hs rfl)).2] at e2; cases e2
      | some d => exact ⟨_, rfl, _, rfl, a, pa, ua, d, l, c, rfl, L, G d rfl, hl, e2, k⟩
    have e2 : isH c = false := by simpa using e2
    exact ⟨_, rfl, _, rfl, a, pa, ua, s, l, c, rfl, L, G, hs, hl, e, e2, k⟩
abbrev s_answers : Stmt := top 86
theorem sc_answers : FnScope ["calls", "ledger", "given", "at", "behind", "answer"] ["calls"] (defScope s_answers) := ⟨rfl, rfl, rfl, by decide +kernel, rfl, by decide +kernel, by decide +kernel⟩
def sp_answers (K : PySem.W.Frag) : Sp := fun vs H Q _ => ∃ (C : Addr) (ns : List Int), vs = [.ref C] ∧ SqL K H C (ns.map V.int) ∧ ns.length ≤ 5000 ∧ PyKm482.answers_asked ns = true ∧ ∀ (H' : Hp) (p : Addr), H' p = some (.lst ((PyKm482.answers ns).map V.int)) → Q (.ref p) H'
/-- what is still to be answered -/
structure Left (ns : List Int) (k : Nat) (s : Km482Neutral.S) (gs : List Int) (cs : List (List (List Int))) : Prop where
  calls : ∃ f, PyFlat.calls PyKm482.shape f (ns.drop k) = some cs
  asked : ∀ c ∈ cs, Km482Neutral.asked1 c = true
  may : Km482Neutral.may s cs = true
  all : gs ++ PyFlat.told (PyFlat.played Km482Neutral.step s cs) = PyKm482.answers ns
theorem left_start {ns : List Int} (h : PyKm482.answers_asked ns = true) : (∃ cs, Left ns 0 none [] cs) ∧ (PyKm482.answers ns).length ≤ 10000000 := by
  unfold PyKm482.answers_asked at h
  cases e : PyFlat.calls PyKm482.shape ns.length ns with
  | none => rw [e] at h; cases h
  | some raw =>
    rw [e] at h
    simp only [Bool.and_eq_true] at h
    obtain ⟨⟨⟨⟨h1, h2⟩, h3⟩, h4⟩, h5⟩ := h
    have ew : raw.map PyKm482.whole = raw := by
      have : PyKm482.whole = id := funext whole_id
      rw [this, List.map_id]
    rw [ew] at h4
    unfold Km482Neutral.asked at h4
    simp only [Bool.and_eq_true] at h4
    obtain ⟨h6, h7, h8, h9⟩ := h4
    refine ⟨⟨raw, ⟨ns.length, e⟩, fun c hc => List.all_eq_true.mp h8 c hc, h9, ?_⟩, ?_⟩
    · rw [List.nil_append]
      unfold PyKm482.answers PyKm482.calls
      rw [e]
      show _ = PyFlat.told (PyFlat.played Km482Neutral.step Km482Neutral.start (raw.map PyKm482.whole))
      rw [ew]; rfl
    · unfold PyFlat.short at h5
      exact of_decide_eq_true h5
theorem left_step {ns : List Int} {k : Nat} {s : Km482Neutral.S} {gs : List Int} {cs : List (List (List Int))} (L : Left ns k s gs cs) (hk : k < ns.length) : ∃ c cs', (ns.drop k).take (enc c).length = (enc c).map (fun (n : Nat) => (n : Int)) ∧ 0 < (enc c).length ∧ k + (enc c).length ≤ ns.length ∧
    (s = none → Km482Neutral.isStart c = true) ∧ Left ns (k + (enc c).length) (stepN s c).1 (gs ++ (((stepN s c).2.length : Int) :: (stepN s c).2)) cs' := by
  obtain ⟨f, hf⟩ := L.calls
  have ed : ns.drop k = ns[k] :: ns.drop (k + 1) := List.drop_eq_getElem_cons hk
  rw [ed] at hf
  cases f with
  | zero => simp [PyFlat.calls] at hf
  | succ f =>
    obtain ⟨n, cs', h1, h2, h3, h4⟩ := calls_cons hf
    have ha := L.asked
    have hm := L.may
    have hall := L.all
    rw [h3] at ha hm hall
    obtain ⟨c, hc, hx⟩ := asked_enc (x := ns[k] :: List.take n (List.drop (k + 1) ns)) (ha _ (by simp))
    have hlen : (enc c).length = n + 1 := by
      have := congrArg List.length hx
      rw [List.length_cons, List.length_take, List.length_map] at this
      omega
    rw [List.length_drop] at h2
    have hst := step_of (s := s) hc
    simp only [Km482Neutral.may, Bool.and_eq_true] at hm
    rw [hst] at hm
    refine ⟨c, cs', ?_, by omega, by omega, fun z => ?_, ⟨f, ?_⟩, fun c' hc' => ha c' (by simp [hc']), hm.2, ?_⟩
    · rw [hlen, ed, List.take_succ_cons, hx]
    · subst z
      cases e : Km482Neutral.isStart c with
      | true => rfl
      | false =>
        have : stepN none c = (none, []) := by unfold stepN; simp only [e]; rfl
        rw [this] at hm
        simp at hm
    · rw [hlen, show k + (n + 1) = k + 1 + n by omega, ← List.drop_drop]; exact h4
    · rw [← hall]
      simp only [PyFlat.played]
      rw [told_cons, hst, List.append_assoc]; rfl
theorem ok_answers {f : Addr} {fd : FuncData} (F : Fun K "answers" "answers" s_answers f fd) (T : Txt K mg Cp Cl) (C_Ledger : CalleeI P w K mg base "Ledger" Cl 1 ["self"] (sp_Ledger_init Cp Cl)) (C_answer_call0 : Callee P w K mg base "answer_call" 10 ["ledger", "call"] (sp_answer_call Cp Cl)) : FnOk P w K mg base CX0 11 f fd ["calls"] (sp_answers K) := by
  have C_answer_call := C_answer_call0.frame
  refine F.ok sc_answers (fun vs H Q E h => ?_) (fun cdv A outer s H vs Q E hr h => ?_)
  · obtain ⟨C, ns, rfl, _⟩ := h
    rfl
  · obtain ⟨C, ns, rfl, hS, h5, hask, k⟩ := h
    obtain ⟨na, ena, hna⟩ := T.g_NUMBERS_BEHIND
    refine ⟨_, (pss_cons (ps_set (i := 1) sc_answers.nd rfl (Or.inl rfl) (pe_makeC0 C_Ledger hr rfl))
      (pss_cons (ps_set (i := 2) sc_answers.nd rfl (Or.inl rfl) (pe_lst pa_nil))
      (pss_cons (ps_set (i := 3) sc_answers.nd rfl (Or.inl rfl) pe_int)
      (pss_cons (ps_while PassesOwn.never (pt_cmpR op_lt (pv 3) (pe_callB call_len_seq (by rfl) T.b_len PySem.boot_len (pa_cons (pv 0) pa_nil)) (nomark _)) (pss_cons (ps_set (i := 4) sc_answers.nd rfl (Or.inl rfl) (pe_op op_add (pe_op op_add (pv 3) pe_int) (pe_ix ix_tup (pe_gr rfl ena) (pe_ix ix_list (pv 0) (pv 3) (fun _ _ => rfl)) (fun _ _ => rfl))))
      (pss_cons (ps_set (i := 5) sc_answers.nd rfl (Or.inl rfl) (pe_callC C_answer_call hr rfl (pa_cons (pv 1) (pa_cons (pe_slice sl_list (pv 0) (po_some (pv 3)) (po_some (pv 4))) pa_nil))))
      (pss_cons (ps_expr (pe_bm PySem.F.plainAttrs_list PySem.F.slot_list_append PySem.F.type_list_append mt_append (pv 2) (pa_cons (pe_callB call_len_seq (by rfl) T.b_len PySem.boot_len (pa_cons (pv 5) pa_nil)) pa_nil)))
      (pss_cons (ps_expr (pe_bm PySem.F.plainAttrs_list PySem.F.slot_list_extend PySem.F.type_list_extend mt_extend (pv 2) (pa_cons (pv 5) pa_nil)))
      (pss_one (ps_set (i := 3) sc_answers.nd rfl (Or.inl rfl) (pv 4))))))))
      (pss_one (ps_ret (pv 2))))))), ?_⟩
    obtain ⟨⟨cs0, L0⟩, hbig⟩ := left_start hask
    -- ledger = Ledger()
    intro a dx na0 nd0 ne0
    refine ⟨a, dx, rfl, upd_same, fun H1 pa ua k1 npa nua Ld => ⟨rfl, ?_⟩⟩
    have s1 : Same H H1 := Same.made na0 nd0 k1
    have frs : ∀ b, (upd (upd H dx (.own a)) a (.ins Cl dx [])) b = none → H b = none := fun b hb => by
      have sa : Same H (upd (upd H dx (.own a)) a (.ins Cl dx [])) := fun b o e => by rw [upd_ne (ne_of_none e na0), upd_ne (ne_of_none e nd0)]; exact e
      exact sa.free hb
    -- given = []
    refine ⟨Nat.zero_le _, fun D hD => ?_⟩
    have hHD := s1.free hD
    refine ⟨fun m σ H' => ∃ (o4 o5 : Option V) (kk : Nat) (st : Km482Neutral.S) (gs : List Int) (cs : List (List (List Int))) (H0 : Hp) (pa ua : Addr), σ = [some (.ref C), some (.ref a), some (.ref D), some (nv kk), o4, o5] ∧ H' = upd H0 D (.lst (gs.map V.int)) ∧ H0 D = none ∧ Same H H0 ∧ Led Cp Cl H0 a pa ua st ∧ H pa = none ∧ H ua = none ∧
      GoodS st ∧ Left ns kk st gs cs ∧ kk ≤ ns.length ∧ m = ns.length - kk, ⟨_, none, none, 0, none, [], cs0, H1, pa, ua, rfl, rfl, hD, s1, Ld, frs pa npa, frs ua nua, (fun d e => by cases e), L0, Nat.zero_le _, rfl⟩, ?_⟩
    rintro m σ H' ⟨o4, o5, kk, st, gs, cs, H0, pa, ua, rfl, rfl, hD0, s0, Ld, hpa, hua, Gs, Lf, hkk, rfl⟩
    have sD : Same H0 (upd H0 D (.lst (gs.map V.int))) := same_new hD0
    have hSC : SqL K (upd H0 D (.lst (gs.map V.int))) C (ns.map V.int) := (s0.trans sD).seq hS
    refine ⟨_, rfl, _, rfl, C, _, rfl, .inl hSC, _, _, rfl, rfl, _, rfl, ite2 (fun e => ?_) (fun e => ?_)⟩
    · have e := of_decide_eq_true e
      rw [List.length_map] at e
      have hk : kk < ns.length := by omega
      obtain ⟨c, cs', hcut, h0, hle, hst, Lf'⟩ := left_step Lf hk
      have hall := congrArg List.length Lf'.all
      rw [List.length_append, List.length_append, List.length_cons] at hall
      -- its own number
      have hnum : (ns.map V.int)[kk]? = some (nv (num c)) := by
        have e1 : ((ns.drop kk).take (enc c).length)[0]? = ((enc c).map fun (n : Nat) => (n : Int))[0]? := by rw [hcut]
        rw [List.getElem?_take_of_lt h0, List.getElem?_drop, Nat.add_zero] at e1
        have e2 := enc_num c
        rw [map_nv_int, List.getElem?_map, ← e1, ← List.getElem?_map] at e2
        exact e2
      refine ⟨fun σ' H'' => ∃ (o4 o5 : Option V) (H0 : Hp) (pa ua : Addr), σ' = [some (.ref C), some (.ref a), some (.ref D), some (nv (kk + (enc c).length)), o4, o5] ∧ H'' = upd H0 D (.lst ((gs ++ (((stepN st c).2.length : Int) :: (stepN st c).2)).map V.int)) ∧ H0 D = none ∧ Same H H0 ∧ Led Cp Cl H0 a pa ua (stepN st c).1 ∧ H pa = none ∧ H ua = none, ?_, ?_⟩
      · rintro σ' H'' ⟨o4, o5, H0', pa', ua', rfl, rfl, h1, h2, h3, h4, h6⟩
        exact ⟨ns.length - (kk + (enc c).length), by omega, o4, o5, _, _, _, cs', H0', pa', ua', rfl, rfl, h1, h2, h3, h4, h6, good_step Gs c, Lf', hle, rfl⟩
      · refine ⟨_, rfl, _, _, rfl, rfl, _, rfl, _, rfl, C, _, _, _, rfl, rfl, hSC, atI_nat hnum, na, _, _, _, rfl, rfl, hna _, atI_nat (behind_num c), _, _, rfl, rfl, ?_⟩
        have eb : ((kk : Int) + 1 + (((enc c).length - 1 : Nat) : Int)) = ((kk + (enc c).length : Nat) : Int) := by omega
        dsimp only
        rw [eb]
        refine ⟨_, rfl, _, rfl, _, rfl, _, rfl, _, rfl, _, rfl, C, _, rfl, hSC, fun l nl => ?_⟩
        have ecut : cutV (ns.map V.int) (some (kk : Int)) (some ((kk + (enc c).length : Nat) : Int)) = (enc c).map nv := by
          unfold cutV
          rw [HT.sIx_nat, HT.sIx_nat, List.length_map, Nat.min_eq_left hle, Nat.min_eq_left hkk, ← List.map_drop, ← List.map_take, show kk + (enc c).length - kk = (enc c).length by omega, hcut, map_nv_int]
        rw [ecut]
        have lD : l ≠ D := fun z => by rw [z, upd_same] at nl; cases nl
        have nl0 : H0 l = none := sD.free nl
        have s2 : Same H0 (upd H0 l (.lst ((enc c).map nv))) := same_new nl0
        have hD2 : (upd H0 l (.lst ((enc c).map nv))) D = none := by rw [upd_ne lD.symm]; exact hD0
        refine ⟨D, gs.map V.int, by rw [upd_ne lD.symm, upd_same], ?_⟩
        rw [upd_comm lD.symm, era_upd hD2]
        refine ⟨a, pa, ua, st, l, c, rfl, Ld.same T.ne s2, Gs, hst, upd_same, fun v' H2 N A hD3 => ?_⟩
        obtain ⟨p, rfl, hp⟩ := A
        have pD : p ≠ D := fun z => by rw [z, hD3] at hp; cases hp
        obtain ⟨pa', ua', Ld', np, nu, rest⟩ := N
        have s02 := s0.trans s2
        have s3 : Same H H2 := fun b o e => rest b o (s02 _ _ e) (ne_of_none e na0) (ne_of_none e hpa) (ne_of_none e hua)
        have hp1 : (upd H2 D (.lst (gs.map V.int))) p = some (.lst ((stepN st c).2.map V.int)) := by rw [upd_ne pD]; exact hp
        refine ⟨_, rfl, .inl ⟨rfl, _, SqL.of upd_same⟩, _, rfl, p, _, rfl, .inl (SqL.of hp1), D, _, _, rfl, rfl, upd_same, by rw [List.length_map, sizeLine_eq]; omega, ?_⟩
        rw [upd_upd]
        have hp2 : (upd H2 D (.lst (gs.map V.int ++ [.int ((stepN st c).2.map V.int).length]))) p = some (.lst ((stepN st c).2.map V.int)) := by rw [upd_ne pD]; exact hp
        refine ⟨_, rfl, .inl ⟨rfl, _, SqL.of upd_same⟩, _, rfl, D, p, _, _, rfl, rfl, upd_same, hp2, by rw [List.length_append, List.length_map, List.length_singleton, List.length_map, sizeLine_eq]; omega, ?_⟩
        rw [upd_upd]
        refine ⟨_, rfl, _, _, H2, pa', ua', rfl, ?_, hD3, s3, Ld', ?_, ?_⟩
        · rw [List.map_append, List.map_cons, List.append_assoc, List.length_map]; rfl
        · rcases np with z | z
          · rw [z]; exact hpa
          · exact s02.free z
        · rcases nu with z | z
          · rw [z]; exact hua
          · exact s02.free z
    · have e : ¬ kk < ns.length := fun z => e (decide_eq_true (by rw [List.length_map]; omega))
      have ek : ns.drop kk = [] := List.drop_eq_nil_of_le (by omega)
      obtain ⟨f', hf⟩ := Lf.calls
      rw [ek] at hf
      have ec : cs = [] := by
        cases f' with
        | zero => simp [PyFlat.calls] at hf; exact hf
        | succ f' => simp [PyFlat.calls] at hf; exact hf
      have hall := Lf.all
      rw [ec] at hall
      have eg : gs = PyKm482.answers ns := by
        rw [← hall]; show gs = gs ++ []; rw [List.append_nil]
      refine ⟨_, rfl, k _ D ?_⟩
      rw [upd_same, eg]
end
end Mf

namespace Mf
open PySem PySem.Spec PyProof.Rows L2 Km482
/-! ### what the top has written -/
theorem len1 {p : List Value → Prop} (h : ∀ a, p [a]) : ∀ us, us.length = 1 → p us
  | [a], _ => h a
theorem len2 {p : List Value → Prop} (h : ∀ a b, p [a, b]) : ∀ us, us.length = 2 → p us
  | [a, b], _ => h a b
theorem len3 {p : List Value → Prop} (h : ∀ a b c, p [a, b, c]) : ∀ us, us.length = 3 → p us
  | [a, b, c], _ => h a b c
theorem len4 {p : List Value → Prop} (h : ∀ a b c d, p [a, b, c, d]) : ∀ us, us.length = 4 → p us
  | [a, b, c, d], _ => h a b c d
theorem len5 {p : List Value → Prop} (h : ∀ a b c d e, p [a, b, c, d, e]) : ∀ us, us.length = 5 → p us
  | [a, b, c, d, e], _ => h a b c d e
theorem len6 {p : List Value → Prop} (h : ∀ a b c d e f, p [a, b, c, d, e, f]) : ∀ us, us.length = 6 → p us
  | [a, b, c, d, e, f], _ => h a b c d e f
structure DefAt (K : PySem.W.Frag) (x : Str) (st : Stmt) : Prop where
  ex : ∃ (f : Addr) (oc : Value) (od : Option Addr) (kV doc pm : Value) (an : Option Addr) (cd ct : Value) (sl : Array (Option Value)), PySem.W.nsIn K mainGlobals x = some (some (.ref f)) ∧
    K.lookup f = some ⟨oc, od, .func (PySem.W.fnOf x x (defArgs st) (defBody st) (defScope st) .none kV doc pm an cd ct), sl⟩ ∧ PySem.W.codeIn K cd x = true ∧ PySem.W.keepIn K (.ref f) = true
theorem DefAt.of {K : PySem.W.Frag} {x : Str} {st : Stmt} {f : Addr} {oc : Value} {od : Option Addr} {kV doc pm : Value} {an : Option Addr} {cd ct : Value} {sl : Array (Option Value)} (a : PySem.W.nsIn K mainGlobals x = some (some (.ref f)))
    (l : K.lookup f = some ⟨oc, od, .func (PySem.W.fnOf x x (defArgs st) (defBody st) (defScope st) .none kV doc pm an cd ct), sl⟩) (c : PySem.W.codeIn K cd x = true) (k : PySem.W.keepIn K (.ref f) = true) : DefAt K x st := ⟨⟨f, oc, od, kV, doc, pm, an, cd, ct, sl, a, l, c, k⟩⟩
structure MethAt (K : PySem.W.Frag) (C : Addr) (m q : Str) (st : Stmt) : Prop where
  ex : ∃ (f : Addr) (oc : Value) (od : Option Addr) (kV doc pm : Value) (an : Option Addr) (cd ct : Value) (sl : Array (Option Value)), PySem.W.findIn K (.ref C) m = some (some (.ref f)) ∧ PySem.W.isFn K (.ref f) = true ∧
    K.lookup f = some ⟨oc, od, .func (PySem.W.fnOf m q (defArgs st) (defBody st) (defScope st) .none kV doc pm an cd ct), sl⟩ ∧ PySem.W.codeIn K cd q = true ∧ PySem.W.keepIn K (.ref f) = true
theorem MethAt.of {K : PySem.W.Frag} {C : Addr} {m q : Str} {st : Stmt} {f : Addr} {oc : Value} {od : Option Addr} {kV doc pm : Value} {an : Option Addr} {cd ct : Value} {sl : Array (Option Value)} (a : PySem.W.findIn K (.ref C) m = some (some (.ref f))) (i : PySem.W.isFn K (.ref f) = true)
    (l : K.lookup f = some ⟨oc, od, .func (PySem.W.fnOf m q (defArgs st) (defBody st) (defScope st) .none kV doc pm an cd ct), sl⟩) (c : PySem.W.codeIn K cd q = true) (k : PySem.W.keepIn K (.ref f) = true) : MethAt K C m q st := ⟨⟨f, oc, od, kV, doc, pm, an, cd, ct, sl, a, i, l, c, k⟩⟩
structure ClassAt (K : PySem.W.Frag) (C : Addr) : Prop where
  pg : PySem.W.plainGet K C Str.empty = true
  hd : PySem.W.hasDictIn K C = true
  po : PySem.W.plainOver K C = true
  sa : PySem.W.findIn K (.ref C) "__setattr__" = some (some (.builtin "object.__setattr__"))
  ms : PySem.W.makesIn K C = true
  kc : PySem.W.keepIn K (.ref C) = true
def IntAt (K : PySem.W.Frag) (x : Str) (i : Int) : Prop := ∃ v, PySem.W.nsIn K mainGlobals x = some (some v) ∧ absV v = some (.int i)
theorem IntAt.of {K : PySem.W.Frag} {x : Str} {i : Int} {v : Value} (a : PySem.W.nsIn K mainGlobals x = some (some v)) (b : absV v = some (.int i)) : IntAt K x i := ⟨v, a, b⟩
def TupAt (K : PySem.W.Frag) (x : Str) (ns : List Nat) : Prop := ∃ (a : Addr) (oc : Value) (od : Option Addr) (its : Array Value) (n : Nat) (sl : Array (Option Value)), PySem.W.nsIn K mainGlobals x = some (some (.ref a)) ∧ K.lookup a = some ⟨oc, od, .seq its n, sl⟩ ∧ oc = .type "tuple" ∧ its.toList.map absV = ns.map fun m => some (nv m)
theorem TupAt.of {K : PySem.W.Frag} {x : Str} {ns : List Nat} {a : Addr} {oc : Value} {od : Option Addr} {its : Array Value} {n : Nat} {sl : Array (Option Value)} (h1 : PySem.W.nsIn K mainGlobals x = some (some (.ref a))) (h2 : K.lookup a = some ⟨oc, od, .seq its n, sl⟩) (h3 : oc = .type "tuple") (h4 : its.toList.map absV = ns.map fun m => some (nv m)) : TupAt K x ns := ⟨a, oc, od, its, n, sl, h1, h2, h3, h4⟩
theorem abs_int {u : Value} {i : Int} (h : absV u = some (.int i)) : RelV (.int i) u := by
  cases u <;> first | (simp [absV] at h; done) | skip
  case int j t =>
    have : j = i := by simpa [absV] using h
    subst this
    exact ⟨t, rfl⟩
theorem vals_abs : ∀ {us : List Value} {ns : List Nat}, us.map absV = ns.map (fun m => some (nv m)) → Vals (ns.map nv) us
  | [], [], _ => .nil
  | [], _ :: _, h => by simp at h
  | _ :: _, [], h => by simp at h
  | u :: us, m :: ns, h => by
    rw [List.map_cons, List.map_cons] at h
    injection h with h1 h2
    exact .cons (abs_int h1) (vals_abs h2)
section
variable {P : Program} {w : World} {K : PySem.W.Frag} {h : Heap} {mg : Str → Option Value} {base : Heap}
theorem DefAt.callee {x : Str} {st : Stmt} {k : Nat} {ps : List Str} {sp : Sp} (D : DefAt K x st) (X : K.In h) (G : h.Ns mainGlobals mg) (ok : ∀ f fd, Fun K x x st f fd → FnOk P w K mg base CX0 k f fd ps sp)
    (b : ∀ (kV doc pm : Value) (an : Option Addr) (cdv ct : Value) (us : List Value), us.length = ps.length → bindArgs (PySem.W.fnOf x x (defArgs st) (defBody st) (defScope st) .none kV doc pm an cdv ct) ⟨us, []⟩ = pure (ps.zip us)) : Callee P w K mg base x k ps sp := by
  obtain ⟨f, oc, od, kV, doc, pm, an, cd, ct, sl, h1, h2, h3, h4⟩ := D.ex
  have F := fun_mk (st := st) h2 h3 h4
  exact ⟨f, _, PySem.W.mg_of X G h1, h4, F.binds b, ok _ _ F⟩
theorem MethAt.callee {C : Addr} {m q : Str} {st : Stmt} {k : Nat} {ps : List Str} {sp : Sp} (D : MethAt K C m q st) (ok : ∀ f fd, Fun K m q st f fd → FnOk P w K mg base CX0 k f fd ps sp)
    (b : ∀ (kV doc pm : Value) (an : Option Addr) (cdv ct : Value) (us : List Value), us.length = ps.length → bindArgs (PySem.W.fnOf m q (defArgs st) (defBody st) (defScope st) .none kV doc pm an cdv ct) ⟨us, []⟩ = pure (ps.zip us)) : CalleeM P w K mg base C m k ps sp := by
  obtain ⟨f, oc, od, kV, doc, pm, an, cd, ct, sl, h1, hi, h2, h3, h4⟩ := D.ex
  have F := fun_mk (st := st) h2 h3 h4
  exact ⟨f, _, ⟨h1, hi, h4⟩, F.binds b, ok _ _ F⟩
theorem MethAt.maker {C : Addr} {x q : Str} {st : Stmt} {k : Nat} {ps : List Str} {sp : Sp} (D : MethAt K C "__init__" q st) (Z : ClassAt K C) (X : K.In h) (G : h.Ns mainGlobals mg) (a : PySem.W.nsIn K mainGlobals x = some (some (.ref C))) (ok : ∀ f fd, Fun K "__init__" q st f fd → FnOk P w K mg base CX0 k f fd ps sp)
    (b : ∀ (kV doc pm : Value) (an : Option Addr) (cdv ct : Value) (us : List Value), us.length = ps.length → bindArgs (PySem.W.fnOf "__init__" q (defArgs st) (defBody st) (defScope st) .none kV doc pm an cdv ct) ⟨us, []⟩ = pure (ps.zip us)) : CalleeI P w K mg base x C k ps sp := by
  obtain ⟨f, oc, od, kV, doc, pm, an, cd, ct, sl, h1, hi, h2, h3, h4⟩ := D.ex
  have F := fun_mk (st := st) h2 h3 h4
  exact ⟨f, _, PySem.W.mg_of X G a, ⟨Z.ms, h1, hi, Z.kc⟩, F.binds b, ok _ _ F⟩
theorem TupAt.txt {x : Str} {ns : List Nat} (D : TupAt K x ns) (X : K.In h) (G : h.Ns mainGlobals mg) (hn : ns.length ≤ sizeLine) : ∃ a, mg x = some (.ref a) ∧ ∀ H, SqT K H a (ns.map nv) := by
  obtain ⟨a, oc, od, its, n, sl, h1, h2, h3, h4⟩ := D
  subst h3
  have hv := vals_abs h4
  refine ⟨a, PySem.W.mg_of X G h1, fun H => .inr ⟨_, its, n, h2, rfl, rfl, ?_, hv⟩⟩
  have := hv.length
  rw [List.length_map] at this
  have e : its.size = its.toList.length := by simp
  omega
theorem IntAt.txt {x : Str} {i : Int} (D : IntAt K x i) (X : K.In h) (G : h.Ns mainGlobals mg) : ∃ t, mg x = some (.int i t) := by
  obtain ⟨v, e, q⟩ := D
  obtain ⟨t, rfl⟩ := abs_int q
  exact ⟨t, PySem.W.mg_of X G e⟩
end
section
set_option maxHeartbeats 0
theorem all_mk {P : Program} {w : World} {K : PySem.W.Frag} {h : Heap} {mg : Str → Option Value} {fa Cp Cl : Addr} (X : K.In h) (G : h.Ns mainGlobals mg) (hfa : mg "answers" = some (.ref fa))
    (aP : PySem.W.nsIn K mainGlobals "Pact" = some (some (.ref Cp)))
    (aL : PySem.W.nsIn K mainGlobals "Ledger" = some (some (.ref Cl)))
    (ne : Cp ≠ Cl)
    (zP : ClassAt K Cp)
    (zL : ClassAt K Cl)
    (t_states : PySem.W.findIn K (.ref Cp) "states" = some none)
    (t_goods : PySem.W.findIn K (.ref Cp) "goods" = some none)
    (t_laid : PySem.W.findIn K (.ref Cp) "laid" = some none)
    (t_clauses : PySem.W.findIn K (.ref Cp) "clauses" = some none)
    (t_unions : PySem.W.findIn K (.ref Cp) "unions" = some none)
    (t_pact : PySem.W.findIn K (.ref Cl) "pact" = some none)
    (t_past : PySem.W.findIn K (.ref Cl) "past" = some none)
    (t_undone : PySem.W.findIn K (.ref Cl) "undone" = some none)
    (b_abs : PySem.W.nsIn K mainGlobals "abs" = some none)
    (b_all : PySem.W.nsIn K mainGlobals "all" = some none)
    (b_min : PySem.W.nsIn K mainGlobals "min" = some none)
    (b_max : PySem.W.nsIn K mainGlobals "max" = some none)
    (b_len : PySem.W.nsIn K mainGlobals "len" = some none)
    (b_list : PySem.W.nsIn K mainGlobals "list" = some none)
    (b_range : PySem.W.nsIn K mainGlobals "range" = some none)
    (b_sum : PySem.W.nsIn K mainGlobals "sum" = some none)
    (g_FAVOUR : IntAt K "FAVOUR" 1)
    (g_MIRROR : IntAt K "MIRROR" 2)
    (g_FOLLOW : IntAt K "FOLLOW" 3)
    (g_NONE_THERE : IntAt K "NONE_THERE" (-2))
    (g_NOT_IN_UNION : IntAt K "NOT_IN_UNION" (-6))
    (g_THERE_ALREADY : IntAt K "THERE_ALREADY" (-17))
    (g_UNFIT : IntAt K "UNFIT" (-22))
    (g_FULL : IntAt K "FULL" (-28))
    (g_NO_REFUSAL : IntAt K "NO_REFUSAL" 0)
    (g_FEWEST_STATES : IntAt K "FEWEST_STATES" 2)
    (g_MOST_STATES : IntAt K "MOST_STATES" 6)
    (g_FEWEST_GOODS : IntAt K "FEWEST_GOODS" 1)
    (g_MOST_GOODS : IntAt K "MOST_GOODS" 3)
    (g_HIGHEST_DUTY : IntAt K "HIGHEST_DUTY" 100)
    (g_MOST_CLAUSES : IntAt K "MOST_CLAUSES" 16)
    (g_MOST_TAKEN_BACK : IntAt K "MOST_TAKEN_BACK" 20)
    (g_ROW_LENGTH : IntAt K "ROW_LENGTH" 6)
    (g_NUMBERS_BEHIND : TupAt K "NUMBERS_BEHIND" numbersBehind)
    (g_QUESTIONS : TupAt K "QUESTIONS" questions)
    (g_OF_THE_HISTORY : TupAt K "OF_THE_HISTORY" ofTheHistory)
    (m_Pact_init : MethAt K Cp "__init__" "Pact.__init__" s_Pact_init)
    (m_Ledger_init : MethAt K Cl "__init__" "Ledger.__init__" s_Ledger_init)
    (m_Ledger_begin : MethAt K Cl "begin" "Ledger.begin" s_Ledger_begin)
    (m_Ledger_change_to : MethAt K Cl "change_to" "Ledger.change_to" s_Ledger_change_to)
    (m_Ledger_take_back : MethAt K Cl "take_back" "Ledger.take_back" s_Ledger_take_back)
    (m_Ledger_do_again : MethAt K Cl "do_again" "Ledger.do_again" s_Ledger_do_again)
    (d_new_pact : DefAt K "new_pact" s_new_pact)
    (d_copy_rows : DefAt K "copy_rows" s_copy_rows)
    (d_with_laid : DefAt K "with_laid" s_with_laid)
    (d_with_duty : DefAt K "with_duty" s_with_duty)
    (d_with_clauses : DefAt K "with_clauses" s_with_clauses)
    (d_without_clause : DefAt K "without_clause" s_without_clause)
    (d_with_unions : DefAt K "with_unions" s_with_unions)
    (d_has_state : DefAt K "has_state" s_has_state)
    (d_has_good : DefAt K "has_good" s_has_good)
    (d_union_of : DefAt K "union_of" s_union_of)
    (d_in_union : DefAt K "in_union" s_in_union)
    (d_refusal_of_two : DefAt K "refusal_of_two" s_refusal_of_two)
    (d_refusal_of_duty : DefAt K "refusal_of_duty" s_refusal_of_duty)
    (d_refusal_of_laying : DefAt K "refusal_of_laying" s_refusal_of_laying)
    (d_refusal_of_row : DefAt K "refusal_of_row" s_refusal_of_row)
    (d_bounds_of : DefAt K "bounds_of" s_bounds_of)
    (d_bounds_of_all : DefAt K "bounds_of_all" s_bounds_of_all)
    (d_is_kept : DefAt K "is_kept" s_is_kept)
    (d_lower_once : DefAt K "lower_once" s_lower_once)
    (d_taken_of : DefAt K "taken_of" s_taken_of)
    (d_taken_of_all : DefAt K "taken_of_all" s_taken_of_all)
    (d_gaps_between : DefAt K "gaps_between" s_gaps_between)
    (d_falls_of : DefAt K "falls_of" s_falls_of)
    (d_mf_start : DefAt K "mf_start" s_mf_start)
    (d_mf_duty : DefAt K "mf_duty" s_mf_duty)
    (d_mf_favour : DefAt K "mf_favour" s_mf_favour)
    (d_mf_mirror : DefAt K "mf_mirror" s_mf_mirror)
    (d_mf_follow : DefAt K "mf_follow" s_mf_follow)
    (d_add_clause_of_two : DefAt K "add_clause_of_two" s_add_clause_of_two)
    (d_add_clause : DefAt K "add_clause" s_add_clause)
    (d_mf_drop : DefAt K "mf_drop" s_mf_drop)
    (d_mf_union : DefAt K "mf_union" s_mf_union)
    (d_mf_part : DefAt K "mf_part" s_mf_part)
    (d_mf_settle : DefAt K "mf_settle" s_mf_settle)
    (d_mf_back : DefAt K "mf_back" s_mf_back)
    (d_mf_again : DefAt K "mf_again" s_mf_again)
    (d_mf_state : DefAt K "mf_state" s_mf_state)
    (d_bounds_by_duty : DefAt K "bounds_by_duty" s_bounds_by_duty)
    (d_hangs_by : DefAt K "hangs_by" s_hangs_by)
    (d_least_laid : DefAt K "least_laid" s_least_laid)
    (d_nearest_as_low : DefAt K "nearest_as_low" s_nearest_as_low)
    (d_moved_by : DefAt K "moved_by" s_moved_by)
    (d_is_idle : DefAt K "is_idle" s_is_idle)
    (d_idle_clauses : DefAt K "idle_clauses" s_idle_clauses)
    (d_mf_clause : DefAt K "mf_clause" s_mf_clause)
    (d_mf_laid : DefAt K "mf_laid" s_mf_laid)
    (d_mf_takes : DefAt K "mf_takes" s_mf_takes)
    (d_mf_row : DefAt K "mf_row" s_mf_row)
    (d_mf_falls : DefAt K "mf_falls" s_mf_falls)
    (d_mf_would : DefAt K "mf_would" s_mf_would)
    (d_mf_why : DefAt K "mf_why" s_mf_why)
    (d_mf_moves : DefAt K "mf_moves" s_mf_moves)
    (d_mf_kept : DefAt K "mf_kept" s_mf_kept)
    (d_mf_alike : DefAt K "mf_alike" s_mf_alike)
    (d_mf_idle : DefAt K "mf_idle" s_mf_idle)
    (d_answers : DefAt K "answers" s_answers)
    (d_answer_call : DefAt K "answer_call" s_answer_call)
    (d_answer_question : DefAt K "answer_question" s_answer_question)
    (d_answer_of_history : DefAt K "answer_of_history" s_answer_of_history)
    (d_answer_change : DefAt K "answer_change" s_answer_change) :
    ∃ fd : FuncData, (∀ (s : Shared) (us : List Value), us.length = (["calls"] : List Str).length → BindsTo s fd ⟨us, []⟩ ((["calls"] : List Str).zip us)) ∧ ∀ base : Heap, K.In base → base.Ns mainGlobals mg → FnOk P w K mg base CX0 11 fa fd ["calls"] (sp_answers K) := by
  have T : Txt K mg Cp Cl := {
    ne := ne
    cl_Pact := ⟨zP.pg, zP.hd, zP.po, zP.sa⟩
    cl_Ledger := ⟨zL.pg, zL.hd, zL.po, zL.sa⟩
    a_states := t_states
    a_goods := t_goods
    a_laid := t_laid
    a_clauses := t_clauses
    a_unions := t_unions
    a_pact := t_pact
    a_past := t_past
    a_undone := t_undone
    b_abs := PySem.W.mg_none_of X G b_abs
    b_all := PySem.W.mg_none_of X G b_all
    b_min := PySem.W.mg_none_of X G b_min
    b_max := PySem.W.mg_none_of X G b_max
    b_len := PySem.W.mg_none_of X G b_len
    b_list := PySem.W.mg_none_of X G b_list
    b_range := PySem.W.mg_none_of X G b_range
    b_sum := PySem.W.mg_none_of X G b_sum
    g_FAVOUR := g_FAVOUR.txt X G
    g_MIRROR := g_MIRROR.txt X G
    g_FOLLOW := g_FOLLOW.txt X G
    g_NONE_THERE := g_NONE_THERE.txt X G
    g_NOT_IN_UNION := g_NOT_IN_UNION.txt X G
    g_THERE_ALREADY := g_THERE_ALREADY.txt X G
    g_UNFIT := g_UNFIT.txt X G
    g_FULL := g_FULL.txt X G
    g_NO_REFUSAL := g_NO_REFUSAL.txt X G
    g_FEWEST_STATES := g_FEWEST_STATES.txt X G
    g_MOST_STATES := g_MOST_STATES.txt X G
    g_FEWEST_GOODS := g_FEWEST_GOODS.txt X G
    g_MOST_GOODS := g_MOST_GOODS.txt X G
    g_HIGHEST_DUTY := g_HIGHEST_DUTY.txt X G
    g_MOST_CLAUSES := g_MOST_CLAUSES.txt X G
    g_MOST_TAKEN_BACK := g_MOST_TAKEN_BACK.txt X G
    g_ROW_LENGTH := g_ROW_LENGTH.txt X G
    g_NUMBERS_BEHIND := g_NUMBERS_BEHIND.txt X G (by decide)
    g_QUESTIONS := g_QUESTIONS.txt X G (by decide)
    g_OF_THE_HISTORY := g_OF_THE_HISTORY.txt X G (by decide) }
  obtain ⟨f, oc, od, kV, doc, pm, an, cd, ct, sl, h1, h2, h3, h4⟩ := d_answers.ex
  have e := hfa.symm.trans (PySem.W.mg_of X G h1)
  cases e
  have FA := fun_mk (st := s_answers) h2 h3 h4
  refine ⟨PySem.W.fnOf "answers" "answers" (defArgs s_answers) (defBody s_answers) (defScope s_answers) .none kV doc pm an cd ct, fun s => len1 fun _ => .of_eq rfl, fun base X0 G0 => ?_⟩
  have C_has_state : Callee P w K mg base "has_state" 1 ["pact", "i"] (sp_has_state Cp) := d_has_state.callee X G (fun f fd F => ok_has_state F T) (fun _ _ _ _ _ _ => len2 fun _ _ => rfl)
  have C_union_of : Callee P w K mg base "union_of" 1 ["i", "j"] sp_union_of := d_union_of.callee X G (fun f fd F => ok_union_of F T) (fun _ _ _ _ _ _ => len2 fun _ _ => rfl)
  have C_in_union : Callee P w K mg base "in_union" 2 ["pact", "i", "j"] (sp_in_union Cp) := d_in_union.callee X G (fun f fd F => ok_in_union F T C_union_of) (fun _ _ _ _ _ _ => len3 fun _ _ _ => rfl)
  have C_Pact : CalleeI P w K mg base "Pact" Cp 1 ["self", "states", "goods", "laid", "clauses", "unions"] (sp_Pact_init Cp) := m_Pact_init.maker zP X G aP (fun f fd F => ok_Pact_init F T) (fun _ _ _ _ _ _ => len6 fun _ _ _ _ _ _ => rfl)
  have C_with_clauses : Callee P w K mg base "with_clauses" 3 ["pact", "clauses"] (sp_with_clauses Cp) := d_with_clauses.callee X G (fun f fd F => ok_with_clauses F T C_Pact) (fun _ _ _ _ _ _ => len2 fun _ _ => rfl)
  have C_with_unions : Callee P w K mg base "with_unions" 3 ["pact", "unions"] (sp_with_unions Cp) := d_with_unions.callee X G (fun f fd F => ok_with_unions F T C_Pact) (fun _ _ _ _ _ _ => len2 fun _ _ => rfl)
  have C_copy_rows : Callee P w K mg base "copy_rows" 1 ["rows"] sp_copy_rows := d_copy_rows.callee X G (fun f fd F => ok_copy_rows F T) (fun _ _ _ _ _ _ => len1 fun _ => rfl)
  have C_lower_once : Callee P w K mg base "lower_once" 1 ["takes", "pairs"] sp_lower_once := d_lower_once.callee X G (fun f fd F => ok_lower_once F T) (fun _ _ _ _ _ _ => len2 fun _ _ => rfl)
  have C_bounds_of : Callee P w K mg base "bounds_of" 3 ["pact", "clause"] (sp_bounds_of Cp) := d_bounds_of.callee X G (fun f fd F => ok_bounds_of F T C_in_union) (fun _ _ _ _ _ _ => len2 fun _ _ => rfl)
  have C_bounds_of_all : Callee P w K mg base "bounds_of_all" 4 ["pact"] (sp_bounds_of_all Cp) := d_bounds_of_all.callee X G (fun f fd F => ok_bounds_of_all F T C_bounds_of) (fun _ _ _ _ _ _ => len1 fun _ => rfl)
  have C_taken_of : Callee P w K mg base "taken_of" 5 ["pact", "g"] (sp_taken_of Cp) := d_taken_of.callee X G (fun f fd F => ok_taken_of F T C_copy_rows C_bounds_of_all C_lower_once) (fun _ _ _ _ _ _ => len2 fun _ _ => rfl)
  have C_has_good : Callee P w K mg base "has_good" 1 ["pact", "g"] (sp_has_good Cp) := d_has_good.callee X G (fun f fd F => ok_has_good F T) (fun _ _ _ _ _ _ => len2 fun _ _ => rfl)
  have C_refusal_of_two : Callee P w K mg base "refusal_of_two" 2 ["pact", "i", "j"] (sp_refusal_of_two Cp) := d_refusal_of_two.callee X G (fun f fd F => ok_refusal_of_two F T C_has_state) (fun _ _ _ _ _ _ => len3 fun _ _ _ => rfl)
  have C_refusal_of_duty : Callee P w K mg base "refusal_of_duty" 3 ["pact", "i", "j", "g"] (sp_refusal_of_duty Cp) := d_refusal_of_duty.callee X G (fun f fd F => ok_refusal_of_duty F T C_has_good C_refusal_of_two) (fun _ _ _ _ _ _ => len4 fun _ _ _ _ => rfl)
  have C_refusal_of_laying : Callee P w K mg base "refusal_of_laying" 4 ["pact", "i", "j", "g", "x"] (sp_refusal_of_laying Cp) := d_refusal_of_laying.callee X G (fun f fd F => ok_refusal_of_laying F T C_refusal_of_duty) (fun _ _ _ _ _ _ => len5 fun _ _ _ _ _ => rfl)
  have C_refusal_of_row : Callee P w K mg base "refusal_of_row" 2 ["pact", "i", "g"] (sp_refusal_of_row Cp) := d_refusal_of_row.callee X G (fun f fd F => ok_refusal_of_row F T C_has_state C_has_good) (fun _ _ _ _ _ _ => len3 fun _ _ _ => rfl)
  have C_with_laid : Callee P w K mg base "with_laid" 3 ["pact", "laid"] (sp_with_laid Cp) := d_with_laid.callee X G (fun f fd F => ok_with_laid F T C_Pact) (fun _ _ _ _ _ _ => len2 fun _ _ => rfl)
  have C_with_duty : Callee P w K mg base "with_duty" 4 ["pact", "i", "j", "g", "x"] (sp_with_duty Cp) := d_with_duty.callee X G (fun f fd F => ok_with_duty F T C_copy_rows C_with_laid) (fun _ _ _ _ _ _ => len5 fun _ _ _ _ _ => rfl)
  have C_new_pact : Callee P w K mg base "new_pact" 3 ["states", "goods"] (sp_new_pact Cp) := d_new_pact.callee X G (fun f fd F => ok_new_pact F T C_Pact) (fun _ _ _ _ _ _ => len2 fun _ _ => rfl)
  have C_mf_clause : Callee P w K mg base "mf_clause" 1 ["pact", "c"] (sp_mf_clause Cp) := d_mf_clause.callee X G (fun f fd F => ok_mf_clause F T) (fun _ _ _ _ _ _ => len2 fun _ _ => rfl)
  have C_mf_laid : Callee P w K mg base "mf_laid" 4 ["pact", "i", "j", "g"] (sp_mf_laid Cp) := d_mf_laid.callee X G (fun f fd F => ok_mf_laid F T C_refusal_of_duty) (fun _ _ _ _ _ _ => len4 fun _ _ _ _ => rfl)
  have C_mf_takes : Callee P w K mg base "mf_takes" 6 ["pact", "i", "j", "g"] (sp_mf_takes Cp) := d_mf_takes.callee X G (fun f fd F => ok_mf_takes F T C_refusal_of_duty C_taken_of) (fun _ _ _ _ _ _ => len4 fun _ _ _ _ => rfl)
  have C_mf_row : Callee P w K mg base "mf_row" 6 ["pact", "i", "g"] (sp_mf_row Cp) := d_mf_row.callee X G (fun f fd F => ok_mf_row F T C_refusal_of_row C_taken_of) (fun _ _ _ _ _ _ => len3 fun _ _ _ => rfl)
  have C_gaps_between : Callee P w K mg base "gaps_between" 1 ["rows", "others"] sp_gaps_between := d_gaps_between.callee X G (fun f fd F => ok_gaps_between F T) (fun _ _ _ _ _ _ => len2 fun _ _ => rfl)
  have C_falls_of : Callee P w K mg base "falls_of" 6 ["pact"] (sp_falls_of Cp) := d_falls_of.callee X G (fun f fd F => ok_falls_of F T C_gaps_between C_taken_of) (fun _ _ _ _ _ _ => len1 fun _ => rfl)
  have C_mf_falls : Callee P w K mg base "mf_falls" 7 ["pact"] (sp_mf_falls Cp) := d_mf_falls.callee X G (fun f fd F => ok_mf_falls F T C_falls_of) (fun _ _ _ _ _ _ => len1 fun _ => rfl)
  have C_mf_would : Callee P w K mg base "mf_would" 6 ["pact", "i", "j", "g", "x"] (sp_mf_would Cp) := d_mf_would.callee X G (fun f fd F => ok_mf_would F T C_refusal_of_laying C_gaps_between C_taken_of C_with_duty) (fun _ _ _ _ _ _ => len5 fun _ _ _ _ _ => rfl)
  have C_is_kept : Callee P w K mg base "is_kept" 5 ["pact"] (sp_is_kept Cp) := d_is_kept.callee X G (fun f fd F => ok_is_kept F T C_bounds_of_all) (fun _ _ _ _ _ _ => len1 fun _ => rfl)
  have C_mf_kept : Callee P w K mg base "mf_kept" 6 ["pact"] (sp_mf_kept Cp) := d_mf_kept.callee X G (fun f fd F => ok_mf_kept F T C_is_kept) (fun _ _ _ _ _ _ => len1 fun _ => rfl)
  have C_taken_of_all : Callee P w K mg base "taken_of_all" 6 ["pact"] (sp_taken_of_all Cp) := d_taken_of_all.callee X G (fun f fd F => ok_taken_of_all F T C_taken_of) (fun _ _ _ _ _ _ => len1 fun _ => rfl)
  have C_without_clause : Callee P w K mg base "without_clause" 4 ["pact", "c"] (sp_without_clause Cp) := d_without_clause.callee X G (fun f fd F => ok_without_clause F T C_with_clauses) (fun _ _ _ _ _ _ => len2 fun _ _ => rfl)
  have C_mf_alike : Callee P w K mg base "mf_alike" 6 ["pact", "i", "g"] (sp_mf_alike Cp) := d_mf_alike.callee X G (fun f fd F => ok_mf_alike F T C_refusal_of_row C_taken_of) (fun _ _ _ _ _ _ => len3 fun _ _ _ => rfl)
  have C_bounds_by_duty : Callee P w K mg base "bounds_by_duty" 5 ["pact"] (sp_bounds_by_duty Cp) := d_bounds_by_duty.callee X G (fun f fd F => ok_bounds_by_duty F T C_bounds_of_all) (fun _ _ _ _ _ _ => len1 fun _ => rfl)
  have C_hangs_by : Callee P w K mg base "hangs_by" 1 ["bounds", "duty"] sp_hangs_by := d_hangs_by.callee X G (fun f fd F => ok_hangs_by F T) (fun _ _ _ _ _ _ => len2 fun _ _ => rfl)
  have C_least_laid : Callee P w K mg base "least_laid" 1 ["rows", "hung"] sp_least_laid := d_least_laid.callee X G (fun f fd F => ok_least_laid F T) (fun _ _ _ _ _ _ => len2 fun _ _ => rfl)
  have C_nearest_as_low : Callee P w K mg base "nearest_as_low" 6 ["pact", "g", "i", "j"] (sp_nearest_as_low Cp) := d_nearest_as_low.callee X G (fun f fd F => ok_nearest_as_low F T C_hangs_by C_bounds_by_duty C_least_laid) (fun _ _ _ _ _ _ => len4 fun _ _ _ _ => rfl)
  have C_mf_why : Callee P w K mg base "mf_why" 7 ["pact", "i", "j", "g"] (sp_mf_why Cp) := d_mf_why.callee X G (fun f fd F => ok_mf_why F T C_refusal_of_duty C_nearest_as_low) (fun _ _ _ _ _ _ => len4 fun _ _ _ _ => rfl)
  have C_moved_by : Callee P w K mg base "moved_by" 6 ["pact", "g", "i", "j"] (sp_moved_by Cp) := d_moved_by.callee X G (fun f fd F => ok_moved_by F T C_bounds_by_duty C_taken_of C_hangs_by) (fun _ _ _ _ _ _ => len4 fun _ _ _ _ => rfl)
  have C_mf_moves : Callee P w K mg base "mf_moves" 7 ["pact", "i", "j", "g"] (sp_mf_moves Cp) := d_mf_moves.callee X G (fun f fd F => ok_mf_moves F T C_refusal_of_duty C_moved_by) (fun _ _ _ _ _ _ => len4 fun _ _ _ _ => rfl)
  have C_is_idle : Callee P w K mg base "is_idle" 6 ["pact", "takes", "c"] (sp_is_idle Cp) := d_is_idle.callee X G (fun f fd F => ok_is_idle F T C_hangs_by C_bounds_by_duty C_without_clause C_least_laid) (fun _ _ _ _ _ _ => len3 fun _ _ _ => rfl)
  have C_idle_clauses : Callee P w K mg base "idle_clauses" 7 ["pact"] (sp_idle_clauses Cp) := d_idle_clauses.callee X G (fun f fd F => ok_idle_clauses F T C_taken_of_all C_is_idle) (fun _ _ _ _ _ _ => len1 fun _ => rfl)
  have C_mf_idle : Callee P w K mg base "mf_idle" 8 ["pact"] (sp_mf_idle Cp) := d_mf_idle.callee X G (fun f fd F => ok_mf_idle F T C_idle_clauses) (fun _ _ _ _ _ _ => len1 fun _ => rfl)
  have C_Ledger : CalleeI P w K mg base "Ledger" Cl 1 ["self"] (sp_Ledger_init Cp Cl) := m_Ledger_init.maker zL X G aL (fun f fd F => ok_Ledger_init F T) (fun _ _ _ _ _ _ => len1 fun _ => rfl)
  have C_Ledger_begin : CalleeM P w K mg base Cl "begin" 1 ["self", "pact"] (sp_Ledger_begin Cp Cl) := m_Ledger_begin.callee (fun f fd F => ok_Ledger_begin F T) (fun _ _ _ _ _ _ => len2 fun _ _ => rfl)
  have C_Ledger_change_to : CalleeM P w K mg base Cl "change_to" 1 ["self", "pact"] (sp_Ledger_change_to Cp Cl) := m_Ledger_change_to.callee (fun f fd F => ok_Ledger_change_to F T) (fun _ _ _ _ _ _ => len2 fun _ _ => rfl)
  have C_Ledger_take_back : CalleeM P w K mg base Cl "take_back" 1 ["self"] (sp_Ledger_take_back Cp Cl) := m_Ledger_take_back.callee (fun f fd F => ok_Ledger_take_back F T) (fun _ _ _ _ _ _ => len1 fun _ => rfl)
  have C_Ledger_do_again : CalleeM P w K mg base Cl "do_again" 1 ["self"] (sp_Ledger_do_again Cp Cl) := m_Ledger_do_again.callee (fun f fd F => ok_Ledger_do_again F T) (fun _ _ _ _ _ _ => len1 fun _ => rfl)
  have C_mf_start : Callee P w K mg base "mf_start" 4 ["ledger", "n", "m"] (sp_mf_start Cp Cl) := d_mf_start.callee X G (fun f fd F => ok_mf_start F T C_Ledger_begin C_new_pact) (fun _ _ _ _ _ _ => len3 fun _ _ _ => rfl)
  have C_mf_duty : Callee P w K mg base "mf_duty" 5 ["ledger", "i", "j", "g", "x"] (sp_mf_duty Cp Cl) := d_mf_duty.callee X G (fun f fd F => ok_mf_duty F T C_refusal_of_laying C_Ledger_change_to C_with_duty) (fun _ _ _ _ _ _ => len5 fun _ _ _ _ _ => rfl)
  have C_add_clause : Callee P w K mg base "add_clause" 4 ["ledger", "clause"] (sp_add_clause Cp Cl) := d_add_clause.callee X G (fun f fd F => ok_add_clause F T C_Ledger_change_to C_with_clauses) (fun _ _ _ _ _ _ => len2 fun _ _ => rfl)
  have C_add_clause_of_two : Callee P w K mg base "add_clause_of_two" 5 ["ledger", "kind", "i", "j"] (sp_add_clause_of_two Cp Cl) := d_add_clause_of_two.callee X G (fun f fd F => ok_add_clause_of_two F T C_refusal_of_two C_add_clause) (fun _ _ _ _ _ _ => len4 fun _ _ _ _ => rfl)
  have C_mf_favour : Callee P w K mg base "mf_favour" 6 ["ledger", "i", "j"] (sp_mf_favour Cp Cl) := d_mf_favour.callee X G (fun f fd F => ok_mf_favour F T C_add_clause_of_two) (fun _ _ _ _ _ _ => len3 fun _ _ _ => rfl)
  have C_mf_mirror : Callee P w K mg base "mf_mirror" 6 ["ledger", "i", "j"] (sp_mf_mirror Cp Cl) := d_mf_mirror.callee X G (fun f fd F => ok_mf_mirror F T C_add_clause_of_two) (fun _ _ _ _ _ _ => len3 fun _ _ _ => rfl)
  have C_mf_follow : Callee P w K mg base "mf_follow" 5 ["ledger", "i", "j", "k"] (sp_mf_follow Cp Cl) := d_mf_follow.callee X G (fun f fd F => ok_mf_follow F T C_has_state C_add_clause) (fun _ _ _ _ _ _ => len4 fun _ _ _ _ => rfl)
  have C_mf_drop : Callee P w K mg base "mf_drop" 5 ["ledger", "c"] (sp_mf_drop Cp Cl) := d_mf_drop.callee X G (fun f fd F => ok_mf_drop F T C_without_clause C_Ledger_change_to) (fun _ _ _ _ _ _ => len2 fun _ _ => rfl)
  have C_mf_union : Callee P w K mg base "mf_union" 4 ["ledger", "i", "j"] (sp_mf_union Cp Cl) := d_mf_union.callee X G (fun f fd F => ok_mf_union F T C_refusal_of_two C_in_union C_union_of C_Ledger_change_to C_with_unions) (fun _ _ _ _ _ _ => len3 fun _ _ _ => rfl)
  have C_mf_part : Callee P w K mg base "mf_part" 4 ["ledger", "i", "j"] (sp_mf_part Cp Cl) := d_mf_part.callee X G (fun f fd F => ok_mf_part F T C_has_state C_in_union C_union_of C_Ledger_change_to C_with_unions) (fun _ _ _ _ _ _ => len3 fun _ _ _ => rfl)
  have C_mf_settle : Callee P w K mg base "mf_settle" 7 ["ledger"] (sp_mf_settle Cp Cl) := d_mf_settle.callee X G (fun f fd F => ok_mf_settle F T C_falls_of C_Ledger_change_to C_with_laid C_taken_of_all) (fun _ _ _ _ _ _ => len1 fun _ => rfl)
  have C_mf_back : Callee P w K mg base "mf_back" 2 ["ledger"] (sp_mf_back Cp Cl) := d_mf_back.callee X G (fun f fd F => ok_mf_back F T C_Ledger_take_back) (fun _ _ _ _ _ _ => len1 fun _ => rfl)
  have C_mf_again : Callee P w K mg base "mf_again" 2 ["ledger"] (sp_mf_again Cp Cl) := d_mf_again.callee X G (fun f fd F => ok_mf_again F T C_Ledger_do_again) (fun _ _ _ _ _ _ => len1 fun _ => rfl)
  have C_mf_state : Callee P w K mg base "mf_state" 1 ["ledger"] (sp_mf_state Cp Cl) := d_mf_state.callee X G (fun f fd F => ok_mf_state F T) (fun _ _ _ _ _ _ => len1 fun _ => rfl)
  have C_answer_question : Callee P w K mg base "answer_question" 9 ["pact", "call"] (sp_answer_question Cp) := d_answer_question.callee X G (fun f fd F => ok_answer_question F T C_mf_clause C_mf_laid C_mf_takes C_mf_row C_mf_falls C_mf_would C_mf_why C_mf_moves C_mf_kept C_mf_alike C_mf_idle) (fun _ _ _ _ _ _ => len2 fun _ _ => rfl)
  have C_answer_change : Callee P w K mg base "answer_change" 8 ["ledger", "call"] (sp_answer_change Cp Cl) := d_answer_change.callee X G (fun f fd F => ok_answer_change F T C_mf_start C_mf_duty C_mf_favour C_mf_mirror C_mf_follow C_mf_drop C_mf_union C_mf_part C_mf_settle) (fun _ _ _ _ _ _ => len2 fun _ _ => rfl)
  have C_answer_of_history : Callee P w K mg base "answer_of_history" 3 ["ledger", "call"] (sp_answer_of_history Cp Cl) := d_answer_of_history.callee X G (fun f fd F => ok_answer_of_history F T C_mf_back C_mf_again C_mf_state) (fun _ _ _ _ _ _ => len2 fun _ _ => rfl)
  have C_answer_call : Callee P w K mg base "answer_call" 10 ["ledger", "call"] (sp_answer_call Cp Cl) := d_answer_call.callee X G (fun f fd F => ok_answer_call F T C_answer_question C_answer_of_history C_answer_change) (fun _ _ _ _ _ _ => len2 fun _ _ => rfl)
  exact ok_answers FA T C_Ledger C_answer_call
end
end Mf

open PySem PySem.W PyProof.Rows
/-! These names are taken, so that the head lays no quick form of what is named beside them: such a form of a tree or a heap of n objects takes n * n room, and the kernel goes as fast without. -/
theorem PySem.W.Fast.tw12551320601869638133 : True := trivial -- tree_55
theorem PySem.W.Fast.tw12616080490006124441 : True := trivial -- tree_127
theorem PySem.W.Fast.tw12433714804733162001 : True := trivial -- tree_195
theorem PySem.W.Fast.tw15775249043995148125 : True := trivial -- tree_279
theorem PySem.W.Fast.tw5179953578570848396 : True := trivial -- tree_337
theorem PySem.W.Fast.tw18293067944371963057 : True := trivial -- tree_415
theorem PySem.W.Fast.tw4687098056951350354 : True := trivial -- tree_490
theorem PySem.W.Fast.tw13306020079233859168 : True := trivial -- tree_499
theorem PySem.W.Fast.tw1629255620857084461 : True := trivial -- heap_500
theorem PySem.W.Fast.tw6063148014579520967 : True := trivial -- heap_1
theorem PySem.W.Fast.tw3939185207388065877 : True := trivial -- view_1
theorem PySem.W.Fast.tw8355129270645811071 : True := trivial -- pw
set_option maxRecDepth 100000 in
set_option maxHeartbeats 0 in
theorem PySem.Challenge.cw_mostfavoured_s01_answers_holds : PySem.Challenge.rw_mostfavoured_s01_answers.Holds := by
  w_on; k_headS; (case hw => exact ⟨[.list [.int 0, .int 2, .int 1]], by decide +kernel, by decide +kernel⟩)
  k_fillS
  refine L2.walk_specK (r := PySem.Challenge.rw_mostfavoured_s01_answers) (k := 11) (CX := L2.CX0) (ps := ["calls"]) (sp := Mf.sp_answers) (by decide +kernel) rfl rfl ⟨rfl, by decide, by decide⟩ (fun w h Y => PySem.W.kIn_of Y) ?F ?S (fun _ _ _ _ z => z)
  case F =>
    intro w mg fa h Y KX G hmg
    refine' Mf.all_mk KX G hmg ?aP ?aL ?ne ?zP ?zL ?t_states ?t_goods ?t_laid ?t_clauses ?t_unions ?t_pact ?t_past ?t_undone ?b_abs ?b_all ?b_min ?b_max ?b_len ?b_list ?b_range ?b_sum ?g_FAVOUR ?g_MIRROR ?g_FOLLOW ?g_NONE_THERE ?g_NOT_IN_UNION ?g_THERE_ALREADY ?g_UNFIT ?g_FULL ?g_NO_REFUSAL ?g_FEWEST_STATES ?g_MOST_STATES ?g_FEWEST_GOODS ?g_MOST_GOODS ?g_HIGHEST_DUTY ?g_MOST_CLAUSES ?g_MOST_TAKEN_BACK ?g_ROW_LENGTH ?g_NUMBERS_BEHIND ?g_QUESTIONS ?g_OF_THE_HISTORY ?m_Pact_init ?m_Ledger_init ?m_Ledger_begin ?m_Ledger_change_to ?m_Ledger_take_back ?m_Ledger_do_again ?d_new_pact ?d_copy_rows ?d_with_laid ?d_with_duty ?d_with_clauses ?d_without_clause ?d_with_unions ?d_has_state ?d_has_good ?d_union_of ?d_in_union ?d_refusal_of_two ?d_refusal_of_duty ?d_refusal_of_laying ?d_refusal_of_row ?d_bounds_of ?d_bounds_of_all ?d_is_kept ?d_lower_once ?d_taken_of ?d_taken_of_all ?d_gaps_between ?d_falls_of ?d_mf_start ?d_mf_duty ?d_mf_favour ?d_mf_mirror ?d_mf_follow ?d_add_clause_of_two ?d_add_clause ?d_mf_drop ?d_mf_union ?d_mf_part ?d_mf_settle ?d_mf_back ?d_mf_again ?d_mf_state ?d_bounds_by_duty ?d_hangs_by ?d_least_laid ?d_nearest_as_low ?d_moved_by ?d_is_idle ?d_idle_clauses ?d_mf_clause ?d_mf_laid ?d_mf_takes ?d_mf_row ?d_mf_falls ?d_mf_would ?d_mf_why ?d_mf_moves ?d_mf_kept ?d_mf_alike ?d_mf_idle ?d_answers ?d_answer_call ?d_answer_question ?d_answer_of_history ?d_answer_change
    (case aP => k_is)
    (case aL => k_is)
    (case ne => decide)
    (case zP => refine' Mf.ClassAt.mk ?pg ?hd ?po ?sa ?ms ?kc; (case pg => k_is); (case hd => k_is); (case po => k_is); (case sa => k_is); (case ms => k_is); (case kc => k_is))
    (case zL => refine' Mf.ClassAt.mk ?pg ?hd ?po ?sa ?ms ?kc; (case pg => k_is); (case hd => k_is); (case po => k_is); (case sa => k_is); (case ms => k_is); (case kc => k_is))
    (case t_states => k_is)
    (case t_goods => k_is)
    (case t_laid => k_is)
    (case t_clauses => k_is)
    (case t_unions => k_is)
    (case t_pact => k_is)
    (case t_past => k_is)
    (case t_undone => k_is)
    (case b_abs => k_is)
    (case b_all => k_is)
    (case b_min => k_is)
    (case b_max => k_is)
    (case b_len => k_is)
    (case b_list => k_is)
    (case b_range => k_is)
    (case b_sum => k_is)
    (case g_FAVOUR => refine' Mf.IntAt.of ?a ?b; (case a => k_is); (case b => rfl))
    (case g_MIRROR => refine' Mf.IntAt.of ?a ?b; (case a => k_is); (case b => rfl))
    (case g_FOLLOW => refine' Mf.IntAt.of ?a ?b; (case a => k_is); (case b => rfl))
    (case g_NONE_THERE => refine' Mf.IntAt.of ?a ?b; (case a => k_is); (case b => rfl))
    (case g_NOT_IN_UNION => refine' Mf.IntAt.of ?a ?b; (case a => k_is); (case b => rfl))
    (case g_THERE_ALREADY => refine' Mf.IntAt.of ?a ?b; (case a => k_is); (case b => rfl))
    (case g_UNFIT => refine' Mf.IntAt.of ?a ?b; (case a => k_is); (case b => rfl))
    (case g_FULL => refine' Mf.IntAt.of ?a ?b; (case a => k_is); (case b => rfl))
    (case g_NO_REFUSAL => refine' Mf.IntAt.of ?a ?b; (case a => k_is); (case b => rfl))
    (case g_FEWEST_STATES => refine' Mf.IntAt.of ?a ?b; (case a => k_is); (case b => rfl))
    (case g_MOST_STATES => refine' Mf.IntAt.of ?a ?b; (case a => k_is); (case b => rfl))
    (case g_FEWEST_GOODS => refine' Mf.IntAt.of ?a ?b; (case a => k_is); (case b => rfl))
    (case g_MOST_GOODS => refine' Mf.IntAt.of ?a ?b; (case a => k_is); (case b => rfl))
    (case g_HIGHEST_DUTY => refine' Mf.IntAt.of ?a ?b; (case a => k_is); (case b => rfl))
    (case g_MOST_CLAUSES => refine' Mf.IntAt.of ?a ?b; (case a => k_is); (case b => rfl))
    (case g_MOST_TAKEN_BACK => refine' Mf.IntAt.of ?a ?b; (case a => k_is); (case b => rfl))
    (case g_ROW_LENGTH => refine' Mf.IntAt.of ?a ?b; (case a => k_is); (case b => rfl))
    (case g_NUMBERS_BEHIND => refine' Mf.TupAt.of ?a ?l ?c ?v; (case a => k_is); (case l => k_is); (case c => rfl); (case v => rfl))
    (case g_QUESTIONS => refine' Mf.TupAt.of ?a ?l ?c ?v; (case a => k_is); (case l => k_is); (case c => rfl); (case v => rfl))
    (case g_OF_THE_HISTORY => refine' Mf.TupAt.of ?a ?l ?c ?v; (case a => k_is); (case l => k_is); (case c => rfl); (case v => rfl))
    (case m_Pact_init => refine' Mf.MethAt.of ?a ?i ?l ?c ?k; (case a => k_is); (case i => k_is); (case l => k_is); (case c => k_is); (case k => k_is))
    (case m_Ledger_init => refine' Mf.MethAt.of ?a ?i ?l ?c ?k; (case a => k_is); (case i => k_is); (case l => k_is); (case c => k_is); (case k => k_is))
    (case m_Ledger_begin => refine' Mf.MethAt.of ?a ?i ?l ?c ?k; (case a => k_is); (case i => k_is); (case l => k_is); (case c => k_is); (case k => k_is))
    (case m_Ledger_change_to => refine' Mf.MethAt.of ?a ?i ?l ?c ?k; (case a => k_is); (case i => k_is); (case l => k_is); (case c => k_is); (case k => k_is))
    (case m_Ledger_take_back => refine' Mf.MethAt.of ?a ?i ?l ?c ?k; (case a => k_is); (case i => k_is); (case l => k_is); (case c => k_is); (case k => k_is))
    (case m_Ledger_do_again => refine' Mf.MethAt.of ?a ?i ?l ?c ?k; (case a => k_is); (case i => k_is); (case l => k_is); (case c => k_is); (case k => k_is))
    (case d_new_pact => refine' Mf.DefAt.of ?a ?l ?c ?k; (case a => k_is); (case l => k_is); (case c => k_is); (case k => k_is))
    (case d_copy_rows => refine' Mf.DefAt.of ?a ?l ?c ?k; (case a => k_is); (case l => k_is); (case c => k_is); (case k => k_is))
    (case d_with_laid => refine' Mf.DefAt.of ?a ?l ?c ?k; (case a => k_is); (case l => k_is); (case c => k_is); (case k => k_is))
    (case d_with_duty => refine' Mf.DefAt.of ?a ?l ?c ?k; (case a => k_is); (case l => k_is); (case c => k_is); (case k => k_is))
    (case d_with_clauses => refine' Mf.DefAt.of ?a ?l ?c ?k; (case a => k_is); (case l => k_is); (case c => k_is); (case k => k_is))
    (case d_without_clause => refine' Mf.DefAt.of ?a ?l ?c ?k; (case a => k_is); (case l => k_is); (case c => k_is); (case k => k_is))
    (case d_with_unions => refine' Mf.DefAt.of ?a ?l ?c ?k; (case a => k_is); (case l => k_is); (case c => k_is); (case k => k_is))
    (case d_has_state => refine' Mf.DefAt.of ?a ?l ?c ?k; (case a => k_is); (case l => k_is); (case c => k_is); (case k => k_is))
    (case d_has_good => refine' Mf.DefAt.of ?a ?l ?c ?k; (case a => k_is); (case l => k_is); (case c => k_is); (case k => k_is))
    (case d_union_of => refine' Mf.DefAt.of ?a ?l ?c ?k; (case a => k_is); (case l => k_is); (case c => k_is); (case k => k_is))
    (case d_in_union => refine' Mf.DefAt.of ?a ?l ?c ?k; (case a => k_is); (case l => k_is); (case c => k_is); (case k => k_is))
    (case d_refusal_of_two => refine' Mf.DefAt.of ?a ?l ?c ?k; (case a => k_is); (case l => k_is); (case c => k_is); (case k => k_is))
    (case d_refusal_of_duty => refine' Mf.DefAt.of ?a ?l ?c ?k; (case a => k_is); (case l => k_is); (case c => k_is); (case k => k_is))
    (case d_refusal_of_laying => refine' Mf.DefAt.of ?a ?l ?c ?k; (case a => k_is); (case l => k_is); (case c => k_is); (case k => k_is))
    (case d_refusal_of_row => refine' Mf.DefAt.of ?a ?l ?c ?k; (case a => k_is); (case l => k_is); (case c => k_is); (case k => k_is))
    (case d_bounds_of => refine' Mf.DefAt.of ?a ?l ?c ?k; (case a => k_is); (case l => k_is); (case c => k_is); (case k => k_is))
    (case d_bounds_of_all => refine' Mf.DefAt.of ?a ?l ?c ?k; (case a => k_is); (case l => k_is); (case c => k_is); (case k => k_is))
    (case d_is_kept => refine' Mf.DefAt.of ?a ?l ?c ?k; (case a => k_is); (case l => k_is); (case c => k_is); (case k => k_is))
    (case d_lower_once => refine' Mf.DefAt.of ?a ?l ?c ?k; (case a => k_is); (case l => k_is); (case c => k_is); (case k => k_is))
    (case d_taken_of => refine' Mf.DefAt.of ?a ?l ?c ?k; (case a => k_is); (case l => k_is); (case c => k_is); (case k => k_is))
    (case d_taken_of_all => refine' Mf.DefAt.of ?a ?l ?c ?k; (case a => k_is); (case l => k_is); (case c => k_is); (case k => k_is))
    (case d_gaps_between => refine' Mf.DefAt.of ?a ?l ?c ?k; (case a => k_is); (case l => k_is); (case c => k_is); (case k => k_is))
    (case d_falls_of => refine' Mf.DefAt.of ?a ?l ?c ?k; (case a => k_is); (case l => k_is); (case c => k_is); (case k => k_is))
    (case d_mf_start => refine' Mf.DefAt.of ?a ?l ?c ?k; (case a => k_is); (case l => k_is); (case c => k_is); (case k => k_is))
    (case d_mf_duty => refine' Mf.DefAt.of ?a ?l ?c ?k; (case a => k_is); (case l => k_is); (case c => k_is); (case k => k_is))
    (case d_mf_favour => refine' Mf.DefAt.of ?a ?l ?c ?k; (case a => k_is); (case l => k_is); (case c => k_is); (case k => k_is))
    (case d_mf_mirror => refine' Mf.DefAt.of ?a ?l ?c ?k; (case a => k_is); (case l => k_is); (case c => k_is); (case k => k_is))
    (case d_mf_follow => refine' Mf.DefAt.of ?a ?l ?c ?k; (case a => k_is); (case l => k_is); (case c => k_is); (case k => k_is))
    (case d_add_clause_of_two => refine' Mf.DefAt.of ?a ?l ?c ?k; (case a => k_is); (case l => k_is); (case c => k_is); (case k => k_is))
    (case d_add_clause => refine' Mf.DefAt.of ?a ?l ?c ?k; (case a => k_is); (case l => k_is); (case c => k_is); (case k => k_is))
    (case d_mf_drop => refine' Mf.DefAt.of ?a ?l ?c ?k; (case a => k_is); (case l => k_is); (case c => k_is); (case k => k_is))
    (case d_mf_union => refine' Mf.DefAt.of ?a ?l ?c ?k; (case a => k_is); (case l => k_is); (case c => k_is); (case k => k_is))
    (case d_mf_part => refine' Mf.DefAt.of ?a ?l ?c ?k; (case a => k_is); (case l => k_is); (case c => k_is); (case k => k_is))
    (case d_mf_settle => refine' Mf.DefAt.of ?a ?l ?c ?k; (case a => k_is); (case l => k_is); (case c => k_is); (case k => k_is))
    (case d_mf_back => refine' Mf.DefAt.of ?a ?l ?c ?k; (case a => k_is); (case l => k_is); (case c => k_is); (case k => k_is))
    (case d_mf_again => refine' Mf.DefAt.of ?a ?l ?c ?k; (case a => k_is); (case l => k_is); (case c => k_is); (case k => k_is))
    (case d_mf_state => refine' Mf.DefAt.of ?a ?l ?c ?k; (case a => k_is); (case l => k_is); (case c => k_is); (case k => k_is))
    (case d_bounds_by_duty => refine' Mf.DefAt.of ?a ?l ?c ?k; (case a => k_is); (case l => k_is); (case c => k_is); (case k => k_is))
    (case d_hangs_by => refine' Mf.DefAt.of ?a ?l ?c ?k; (case a => k_is); (case l => k_is); (case c => k_is); (case k => k_is))
    (case d_least_laid => refine' Mf.DefAt.of ?a ?l ?c ?k; (case a => k_is); (case l => k_is); (case c => k_is); (case k => k_is))
    (case d_nearest_as_low => refine' Mf.DefAt.of ?a ?l ?c ?k; (case a => k_is); (case l => k_is); (case c => k_is); (case k => k_is))
    (case d_moved_by => refine' Mf.DefAt.of ?a ?l ?c ?k; (case a => k_is); (case l => k_is); (case c => k_is); (case k => k_is))
    (case d_is_idle => refine' Mf.DefAt.of ?a ?l ?c ?k; (case a => k_is); (case l => k_is); (case c => k_is); (case k => k_is))
    (case d_idle_clauses => refine' Mf.DefAt.of ?a ?l ?c ?k; (case a => k_is); (case l => k_is); (case c => k_is); (case k => k_is))
    (case d_mf_clause => refine' Mf.DefAt.of ?a ?l ?c ?k; (case a => k_is); (case l => k_is); (case c => k_is); (case k => k_is))
    (case d_mf_laid => refine' Mf.DefAt.of ?a ?l ?c ?k; (case a => k_is); (case l => k_is); (case c => k_is); (case k => k_is))
    (case d_mf_takes => refine' Mf.DefAt.of ?a ?l ?c ?k; (case a => k_is); (case l => k_is); (case c => k_is); (case k => k_is))
    (case d_mf_row => refine' Mf.DefAt.of ?a ?l ?c ?k; (case a => k_is); (case l => k_is); (case c => k_is); (case k => k_is))
    (case d_mf_falls => refine' Mf.DefAt.of ?a ?l ?c ?k; (case a => k_is); (case l => k_is); (case c => k_is); (case k => k_is))
    (case d_mf_would => refine' Mf.DefAt.of ?a ?l ?c ?k; (case a => k_is); (case l => k_is); (case c => k_is); (case k => k_is))
    (case d_mf_why => refine' Mf.DefAt.of ?a ?l ?c ?k; (case a => k_is); (case l => k_is); (case c => k_is); (case k => k_is))
    (case d_mf_moves => refine' Mf.DefAt.of ?a ?l ?c ?k; (case a => k_is); (case l => k_is); (case c => k_is); (case k => k_is))
    (case d_mf_kept => refine' Mf.DefAt.of ?a ?l ?c ?k; (case a => k_is); (case l => k_is); (case c => k_is); (case k => k_is))
    (case d_mf_alike => refine' Mf.DefAt.of ?a ?l ?c ?k; (case a => k_is); (case l => k_is); (case c => k_is); (case k => k_is))
    (case d_mf_idle => refine' Mf.DefAt.of ?a ?l ?c ?k; (case a => k_is); (case l => k_is); (case c => k_is); (case k => k_is))
    (case d_answers => refine' Mf.DefAt.of ?a ?l ?c ?k; (case a => k_is); (case l => k_is); (case c => k_is); (case k => k_is))
    (case d_answer_call => refine' Mf.DefAt.of ?a ?l ?c ?k; (case a => k_is); (case l => k_is); (case c => k_is); (case k => k_is))
    (case d_answer_question => refine' Mf.DefAt.of ?a ?l ?c ?k; (case a => k_is); (case l => k_is); (case c => k_is); (case k => k_is))
    (case d_answer_of_history => refine' Mf.DefAt.of ?a ?l ?c ?k; (case a => k_is); (case l => k_is); (case c => k_is); (case k => k_is))
    (case d_answer_change => refine' Mf.DefAt.of ?a ?l ?c ?k; (case a => k_is); (case l => k_is); (case c => k_is); (case k => k_is))
  case S =>
    intro K H xs a hO hwi hask hx
    cases hx with
    | cons h1 h2 =>
      cases h2
      cases h1 with
      | lst hs ha =>
        have e := L2.ints_dw a.1 _ ha
        subst e
        have q : ((Codec.inLen 0 5000 a.1 && a.1.all (Codec.inInt 0 4294967295)) && true) = true := hwi
        rw [Bool.and_eq_true, Bool.and_eq_true] at q
        exact ⟨_, a.1, rfl, hs, (Codec.inNat_iff.mp q.1.1).2, hask, fun H' p hp => .lst (L2.SqL.of hp) (L2.dw_ints _)⟩
