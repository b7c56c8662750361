import PyProof.Rows.All
import Wide.All
import OpenK.AllK
import Wide.FinOn
import PyProof.EqAt
import PyProof.EqKinds
import PyProof.TupleCall
import KE.BitLaws
import Open.SpecLaws
import KE.OsHead
import KE.OsGo
import PyKp189
import PySem.Challenge.RW_timewent_s01_answers
-- CHANGE: your row's module here, as the last of these rows
set_option Elab.async false
set_option linter.all false
set_option maxRecDepth 100000
/-! THE HAND LAYER, for ints, bools, texts, own classes, lists, tuples, dicts, comprehensions, walks over dicts, enumerate, zip, reversed, texts, calls, loops. Paste it whole ahead of your own text; what your proof does not reach may be deleted. -/
namespace L2
open PySem PySem.Spec PyProof.Rows

/-- a key: an int or a str -/
abbrev Key := Sum Int Str
def keyIs : Key → Value → Bool
  | .inl k, v => Value.isInt k v
  | .inr x, v => Value.isStrOf x v
def keyH (w : World) : Key → Int
  | .inl k => hashInt k
  | .inr x => hashStr w x
theorem keyIs_shape : ∀ {k : Key} {v : Value}, keyIs k v = true → (∃ i t, k = Sum.inl i ∧ v = Value.int i t) ∨ (∃ x t, k = Sum.inr x ∧ v = Value.str x t)
  | .inl i, v, h => by
    obtain ⟨t, e⟩ := Value.isInt_shape (k := i) (v := v) h
    exact .inl ⟨i, t, rfl, e⟩
  | .inr x, v, h => by
    obtain ⟨t, e⟩ := Value.isStrOf_shape (x := x) (v := v) h
    exact .inr ⟨x, t, rfl, e⟩
theorem keyIs_int (i : Int) (t : Tok) : keyIs (.inl i) (.int i t) = true := by simp [keyIs, Value.isInt]
theorem keyIs_str (x : Str) (t : Tok) : keyIs (.inr x) (.str x t) = true := by simp [keyIs, Value.isStrOf]
theorem key_ll (a b : Int) : decide ((Sum.inl a : Key) = Sum.inl b) = (a == b) := by
  by_cases e : a = b
  · subst e; simp
  · have h : ¬ (Sum.inl a : Key) = Sum.inl b := fun q => e (Sum.inl.inj q)
    rw [decide_eq_false h]
    exact (beq_eq_false_iff_ne.mpr e).symm
theorem key_rr (a b : Str) : decide ((Sum.inr a : Key) = Sum.inr b) = decide (a = b) := by
  by_cases e : a = b
  · subst e; simp
  · have h : ¬ (Sum.inr a : Key) = Sum.inr b := fun q => e (Sum.inr.inj q)
    rw [decide_eq_false h, decide_eq_false e]
theorem key_lr (a : Int) (b : Str) : decide ((Sum.inl a : Key) = Sum.inr b) = false := decide_eq_false (fun q => nomatch q)
theorem key_rl (a : Str) (b : Int) : decide ((Sum.inr a : Key) = Sum.inl b) = false := decide_eq_false (fun q => nomatch q)

def mixKind (prog : Program) (w : World) : PySem.KeyKind prog w Key where
  is := keyIs
  hash := keyH w
  inj := fun v a b ha hb => by
    rcases keyIs_shape ha with ⟨i, t, rfl, rfl⟩ | ⟨x, t, rfl, rfl⟩
    · rcases keyIs_shape hb with ⟨j, u, rfl, e⟩ | ⟨y, u, rfl, e⟩
      · injection e with e1 _; rw [e1]
      · exact nomatch e
    · rcases keyIs_shape hb with ⟨j, u, rfl, e⟩ | ⟨y, u, rfl, e⟩
      · exact nomatch e
      · injection e with e1 _; rw [e1]
  byValue := fun k v h => by
    rcases keyIs_shape h with ⟨i, t, rfl, rfl⟩ | ⟨x, t, rfl, rfl⟩ <;> rfl
  pyHash := fun hv h => by
    rcases keyIs_shape hv with ⟨i, t, rfl, rfl⟩ | ⟨x, t, rfl, rfl⟩
    · exact wpAny_pyHash_int h
    · exact wpAny_pyHash_str h
  eqBool := fun hu hv h => by
    rcases keyIs_shape hu with ⟨i, t, rfl, rfl⟩ | ⟨x, t, rfl, rfl⟩
    · rcases keyIs_shape hv with ⟨j, u, rfl, rfl⟩ | ⟨y, u, rfl, rfl⟩
      · rw [key_ll] at h; exact wpAny_eqBool_int h
      · rw [key_lr] at h; exact SeqAt.EqAt.int_str i t y u _ _ _ _ h
    · rcases keyIs_shape hv with ⟨j, u, rfl, rfl⟩ | ⟨y, u, rfl, rfl⟩
      · rw [key_rl] at h; exact SeqAt.EqAt.str_int x t j u _ _ _ _ h
      · rw [key_rr] at h; exact wpAny_eqBool_str h
  «strs» := fun k x t v h => by
    rcases keyIs_shape h with ⟨i, u, rfl, e⟩ | ⟨y, u, rfl, e⟩
    · exact nomatch e
    · injection e with e1 _
      subst e1
      cases v <;> rfl

theorem mixKind_int (prog : Program) (w : World) (i : Int) (t : Tok) : (mixKind prog w).is (.inl i) (.int i t) = true := keyIs_int i t
theorem mixKind_str (prog : Program) (w : World) (x : Str) (t : Tok) : (mixKind prog w).is (.inr x) (.str x t) = true := keyIs_str x t
end L2

namespace L2
open PySem PySem.Spec PyProof.Rows

/-- a value, without the heap -/
inductive V where
  | non | bl (b : Bool) | int (i : Int) | str (x : Str) | byt (b : Array UInt8) | flt (b : UInt64) | ref (a : Addr) | ty (n : String)
  deriving DecidableEq

def RelV : V → Value → Prop
  | .non, u => u = Value.none
  | .bl b, u => u = Value.bool b
  | .int i, u => ∃ t, u = Value.int i t
  | .str x, u => ∃ t, u = Value.str x t
  | .byt b, u => ∃ t, u = Value.bytes b t
  | .flt b, u => ∃ t, u = Value.float b t
  | .ref a, u => u = Value.ref a
  | .ty n, u => u = Value.type n

abbrev Vals : List V → List Value → Prop := Paired RelV
theorem Vals.length {xs : List V} {us : List Value} (r : Vals xs us) : xs.length = us.length := Paired.length r
theorem Vals.get : ∀ {xs : List V} {us : List Value} {i : Nat} {x : V}, Vals xs us → xs[i]? = some x → ∃ u, us[i]? = some u ∧ RelV x u
  | _, _, _, _, .nil, e => by simp at e
  | _, _, 0, _, .cons r _, e => by simp at e; subst e; exact ⟨_, rfl, r⟩
  | _, _, i + 1, x, .cons _ t, e => by
    obtain ⟨u, h1, h2⟩ := Vals.get (i := i) (x := x) t (by simpa using e)
    exact ⟨u, by simpa using h1, h2⟩
theorem Vals.append : ∀ {xs ys : List V} {us ws : List Value}, Vals xs us → Vals ys ws → Vals (xs ++ ys) (us ++ ws)
  | _, _, _, _, .nil, s => s
  | _, _, _, _, .cons r t, s => .cons r (Vals.append t s)
theorem Vals.take : ∀ {xs : List V} {us : List Value} (n : Nat), Vals xs us → Vals (xs.take n) (us.take n)
  | _, _, 0, _ => .nil
  | _, _, _ + 1, .nil => .nil
  | _, _, n + 1, .cons r t => .cons r (Vals.take n t)
theorem Vals.drop : ∀ {xs : List V} {us : List Value} (n : Nat), Vals xs us → Vals (xs.drop n) (us.drop n)
  | _, _, 0, r => r
  | _, _, _ + 1, .nil => .nil
  | _, _, n + 1, .cons _ t => Vals.drop n t
def RelO : Option V → Option Value → Prop
  | some v, some u => RelV v u
  | none, none => True
  | _, _ => False
def KV {κ : Type} : List (κ × V) → List (κ × Value) → Prop := Paired fun (p : κ × V) (q : κ × Value) => p.1 = q.1 ∧ RelV p.2 q.2

/-- a key of a dict (00_mix): an int or a text -/
def kV : Key → V
  | .inl i => .int i
  | .inr x => .str x

/-- what stands at a tracked address -/
inductive HO where
  /-- a list -/
  | lst (xs : List V)
  /-- a tuple (never changes) -/
  | tup (xs : List V)
  /-- a dict whose keys are ints and texts; one whose keys are tuples of ints and texts (the empty one is both) -/
  | dK (kvs : List (Key × V)) | dT (kvs : List (List Key × V))
  /-- a set of ints: its members, its size -/
  | set (S : Int → Bool) (n : Nat)
  /-- an instance of the class at C, its dict at dx, its attributes -/
  | ins (C dx : Addr) (fs : List (Str × V))
  /-- the dict of the instance at x -/
  | own (x : Addr)
  /-- the dict of an exception -/
  | xd (fs : List (Str × V))
  /-- a bound method, f of x -/
  | met (f x : Addr)
  /-- a range object lo, lo + 1, .. below hi -/
  | rng (lo hi : Int)
  /-- a thing that is known to the object (the script; a dict while a loop walks it): read, never written while it is so -/
  | frz (o : Obj) (u : HO)
  /-- a code object's table -/
  | tbl (ps : Array Value)
  /-- any other thing, by what is true of its one object (a def of one's own: SetO a S n := HO.ext fun h => ..) -/
  | ext (φ : Heap → Prop)

abbrev Hp := Addr → Option HO
def upd (H : Hp) (a : Addr) (o : HO) : Hp := fun b => if b = a then some o else H b
theorem upd_same {H : Hp} {a : Addr} {o : HO} : upd H a o a = some o := by unfold upd; rw [if_pos rfl]
theorem upd_ne {H : Hp} {a b : Addr} {o : HO} (h : b ≠ a) : upd H a o b = H b := by unfold upd; rw [if_neg h]
theorem upd_upd {H : Hp} {a : Addr} {o u : HO} : upd (upd H a o) a u = upd H a u := by
  funext b; unfold upd; split <;> rfl
/-- two objects of different content stand apart -/
theorem ne_of {H : Hp} {a b : Addr} {o u : HO} (h : H a = some o) (h' : H b = some u) (d : o ≠ u) : a ≠ b := by
  intro e; subst e; rw [h] at h'; exact d (Option.some.inj h')
theorem ne_of_none {H : Hp} {a b : Addr} {o : HO} (h : H a = some o) (h' : H b = none) : a ≠ b := by
  intro e; subst e; rw [h] at h'; cases h'

section
variable (P : Program) (w : World)
def ObjOk (H : Hp) (h : Heap) (a : Addr) : HO → Prop
  | .lst xs => xs.length ≤ sizeLine ∧ ∃ (its : List Value) (n : Nat), Vals xs its ∧ h.get? a = some { cls := .type "list", data := .seq its.toArray n }
  | .tup xs => xs.length ≤ sizeLine ∧ ∃ its : List Value, Vals xs its ∧ IsTup h a its.toArray
  | .dK kvs => kvs.length ≤ sizeLine ∧ (a == sysModules) = false ∧ ∃ vs, KV kvs vs ∧ h.DictOf (mixKind P w) a vs
  | .dT kvs => kvs.length ≤ sizeLine ∧ (a == sysModules) = false ∧ ∃ xs : List (List Key × Addr × Value),
      Paired (fun (p : List Key × V) (q : List Key × Addr × Value) => p.1 = q.1 ∧ H q.2.1 = some (.tup (p.1.map kV)) ∧ RelV p.2 q.2.2) kvs xs ∧
      ∃ o es ep, h.get? a = some o ∧ o.ExactDict ∧ o.data = .dict es ep ∧ es.toList = xs.map (entryOfKey (tupleKind (mixKind P w))) ∧ (xs.map (·.1)).Nodup
  | .set S n => h.SetOf (intKind P w) a S n
  | .ins C dx fs => H dx = some (.own a) ∧ fs.length ≤ 1000 ∧ dx ≠ a ∧ h.get? a = some (PySem.W.instObj C dx) ∧
      ∃ mA, h.Ns1 dx mA ∧ (∀ f, RelO (fs.lookup f) (mA f)) ∧ PySem.Within mA (fs.map (·.1))
  | .own _ => ∃ o, h.get? a = some o
  | .xd fs => ∃ mA, h.Ns1 a mA ∧ ∀ f, RelO (fs.lookup f) (mA f)
  | .rng lo hi => ∃ t u v, h.get? a = some { cls := .type "range", data := .fields #[.int lo t, .int hi u, .int 1 v] }
  | .frz o u => h.get? a = some o ∧ ObjOk H h a u
  | .tbl ps => h.get? a = some { cls := .none, data := .fields ps }
  | .met f x => h.get? a = some (PySem.W.methodObj (.ref f) (.ref x))
  | .ext φ => φ h ∧ (∃ o, h.get? a = some o) ∧ ∀ h1 h2 : Heap, φ h1 → (∀ o, h1.get? a = some o → h2.get? a = some o) → φ h2
/-- the abstract heap is held -/
def HOk (H : Hp) (h : Heap) : Prop := ∀ a o, H a = some o → ObjOk P w H h a o
end

section
variable {P : Program} {w : World} {H H' : Hp} {h h' : Heap} {a : Addr} {o : HO}
theorem ObjOk.lt (x : ObjOk P w H h a o) : a < h.objs.size := by
  cases o with
  | lst xs => obtain ⟨_, _, _, _, e⟩ := x; exact Heap.lt_size e
  | tup xs => obtain ⟨_, _, _, p⟩ := x; exact p.lt
  | dK kvs => obtain ⟨_, _, _, _, o, _, _, e, _⟩ := x; exact Heap.lt_size e
  | dT kvs => obtain ⟨_, _, _, _, o, _, _, e, _⟩ := x; exact Heap.lt_size e
  | set S n => obtain ⟨o, _, _, _, e, _⟩ := x; exact Heap.lt_size e
  | ins C dx fs => obtain ⟨_, _, _, e, _⟩ := x; exact Heap.lt_size e
  | own y => obtain ⟨_, e⟩ := x; exact Heap.lt_size e
  | xd fs => obtain ⟨_, ⟨_, _, _, e, _⟩, _⟩ := x; exact Heap.lt_size e
  | rng lo hi => obtain ⟨_, _, _, e⟩ := x; exact Heap.lt_size e
  | frz ob u => obtain ⟨e, _⟩ := x; exact Heap.lt_size e
  | tbl ps => exact Heap.lt_size (show h.get? a = some _ from x)
  | met f y => exact Heap.lt_size (show h.get? a = some _ from x)
  | ext φ => obtain ⟨_, ⟨_, e⟩, _⟩ := x; exact Heap.lt_size e
theorem Paired.mapP {α β : Type} {F G : α → β → Prop} : ∀ {l₁ : List α} {l₂ : List β}, Paired F l₁ l₂ → (∀ a b, F a b → G a b) → Paired G l₁ l₂
  | _, _, .nil, _ => .nil
  | _, _, .cons r t, f => .cons (f _ _ r) (Paired.mapP t f)
/-- what an object's description leans on: its own object, its own dict, the tuples -/
theorem ObjOk.stay (x : ObjOk P w H h a o) (k : ∀ b u, (b = a ∨ H b = some (.own a)) → h.get? b = some u → h'.get? b = some u)
    (ho : ∀ b, H b = some (.own a) → H' b = some (.own a)) (ht : ∀ b xs, H b = some (.tup xs) → H' b = some (.tup xs)) : ObjOk P w H' h' a o := by
  induction o with
  | lst xs => obtain ⟨z, its, n, r, e⟩ := x; exact ⟨z, its, n, r, k _ _ (.inl rfl) e⟩
  | tup xs => obtain ⟨z, its, r, ob, e, c⟩ := x; exact ⟨z, its, r, ob, k _ _ (.inl rfl) e, c⟩
  | dK kvs => obtain ⟨z, y, vs, r, ob, es, ep, e, c⟩ := x; exact ⟨z, y, vs, r, ob, es, ep, k _ _ (.inl rfl) e, c⟩
  | dT kvs =>
    obtain ⟨z, y, xs, r, ob, es, ep, e, c⟩ := x
    exact ⟨z, y, xs, Paired.mapP r fun p q z => ⟨z.1, ht _ _ z.2.1, z.2.2⟩, ob, es, ep, k _ _ (.inl rfl) e, c⟩
  | set S n => obtain ⟨ob, es, ep, t, e, c⟩ := x; exact ⟨ob, es, ep, t, k _ _ (.inl rfl) e, c⟩
  | ins C dx fs =>
    obtain ⟨d, z, ne, e, mA, ⟨od, es, ep, e2, c⟩, r⟩ := x
    exact ⟨ho _ d, z, ne, k _ _ (.inl rfl) e, mA, ⟨od, es, ep, k _ _ (.inr d) e2, c⟩, r⟩
  | own y => obtain ⟨ob, e⟩ := x; exact ⟨ob, k _ _ (.inl rfl) e⟩
  | xd fs => obtain ⟨mA, ⟨od, es, ep, e, c⟩, r⟩ := x; exact ⟨mA, ⟨od, es, ep, k _ _ (.inl rfl) e, c⟩, r⟩
  | rng lo hi => obtain ⟨t, u, v, e⟩ := x; exact ⟨t, u, v, k _ _ (.inl rfl) e⟩
  | frz ob u ih => obtain ⟨e, q⟩ := x; exact ⟨k _ _ (.inl rfl) e, ih q⟩
  | tbl ps =>
    have e : h.get? a = some { cls := .none, data := .fields ps } := x
    show h'.get? a = some { cls := .none, data := .fields ps }
    exact k a _ (.inl rfl) e
  | met f y =>
    have e : h.get? a = some (PySem.W.methodObj (.ref f) (.ref y)) := x
    show h'.get? a = some (PySem.W.methodObj (.ref f) (.ref y))
    exact k a _ (.inl rfl) e
  | ext φ => obtain ⟨p, ⟨o, e⟩, st⟩ := x; exact ⟨st _ _ p fun o q => k _ _ (.inl rfl) q, ⟨o, k _ _ (.inl rfl) e⟩, st⟩
theorem HOk.lt (x : HOk P w H h) (e : H a = some o) : a < h.objs.size := (x a o e).lt
theorem HOk.fresh (x : HOk P w H h) (e : h.objs.size ≤ a) : H a = none := by
  cases q : H a with
  | none => rfl
  | some u => exact absurd (Nat.lt_of_lt_of_le (x.lt q) e) (Nat.lt_irrefl _)
/-- every object of the heap is kept -/
theorem HOk.kept (x : HOk P w H h) (k : ∀ b u, h.get? b = some u → h'.get? b = some u) : HOk P w H h' := fun a o e =>
  (x a o e).stay (fun b u _ q => k b u q) (fun _ q => q) fun _ _ q => q
/-- a new object is laid and tracked -/
theorem HOk.laid (x : HOk P w H h) (k : ∀ b u, h.get? b = some u → h'.get? b = some u) (hp : h.objs.size ≤ a) (new : ObjOk P w (upd H a o) h' a o) : HOk P w (upd H a o) h' := fun b u e => by
  have hn := x.fresh hp
  by_cases hb : b = a
  · subst hb; rw [upd_same] at e; cases e; exact new
  · rw [upd_ne hb] at e
    exact (x b u e).stay (fun c v _ q => k c v q) (fun c q => by rw [upd_ne (ne_of_none q hn)]; exact q) fun c xs q => by rw [upd_ne (ne_of_none q hn)]; exact q
end

/-- what may be read as u: it is u, or a known u -/
def Rd (H : Hp) (a : Addr) (u : HO) : Prop := H a = some u ∨ ∃ o, H a = some (.frz o u)
theorem Rd.ok {P : Program} {w : World} {H : Hp} {h : Heap} {a : Addr} {u : HO} (r : Rd H a u) (x : HOk P w H h) : ObjOk P w H h a u := by
  rcases r with r | ⟨o, r⟩
  · exact x a u r
  · obtain ⟨_, q⟩ := x a _ r
    exact q
/-- what may be written -/
def Mut : Option HO → Prop
  | some (.lst _) => True
  | some (.dK _) => True
  | some (.dT _) => True
  | some (.set _ _) => True
  | some (.ins _ _ _) => True
  | some (.ext _) => True
  | _ => False
section
variable {P : Program} {w : World} {H : Hp} {h h' : Heap} {x e : Addr} {o' : HO}
/-- the object at e is changed: x itself, or the dict of the instance x -/
theorem HOk.write (ok : HOk P w H h) (mu : Mut (H x)) (he : e = x ∨ H e = some (.own x)) (k : ∀ b u, b ≠ e → h.get? b = some u → h'.get? b = some u) (heo : ∃ u, h'.get? e = some u)
    (new : ObjOk P w (upd H x o') h' x o') : HOk P w (upd H x o') h' := fun b u q => by
  have nown : ∀ c y, H c = some (.own y) → c ≠ x := fun c y r z => by subst z; rw [r] at mu; exact mu
  have ntup : ∀ c xs, H c = some (.tup xs) → c ≠ x := fun c xs r z => by subst z; rw [r] at mu; exact mu
  by_cases hb : b = x
  · subst hb; rw [upd_same] at q; cases q; exact new
  · rw [upd_ne hb] at q
    by_cases hbe : b = e
    · have q' : H b = some (.own x) := by
        rcases he with z | z
        · exact absurd (hbe.trans z) hb
        · rw [hbe]; exact z
      rw [q] at q'; cases q'
      obtain ⟨v, hv⟩ := heo
      exact ⟨v, by rw [hbe]; exact hv⟩
    · refine (ok b u q).stay (fun c v hc r => k c v ?_ r) (fun c r => by rw [upd_ne (nown c b r)]; exact r) fun c xs r => by rw [upd_ne (ntup c xs r)]; exact r
      rcases hc with rfl | hc
      · exact hbe
      · rintro rfl
        rcases he with z | z
        · exact nown c b hc z
        · rw [hc] at z; cases z; exact hb rfl
end

/-! ### kept unless tracked; of the frames at fs (the callers') the slots may change (an exception that passes writes there); of the records at ex (iterators) nothing is said -/
structure Un (fs ex : List Addr) (H H' : Hp) (h h' : Heap) : Prop where
  keep : ∀ b o, h.get? b = some o → H b = none → b ∉ fs → b ∉ ex → h'.get? b = some o
  slot : ∀ b o, h.get? b = some o → H b = none → b ∈ fs → b ∉ ex → ∃ sl, h'.get? b = some { o with slots := sl }
  free : ∀ b o, h.get? b = some o → H b = none → b ∉ ex → H' b = none
  there : ∀ b o, h.get? b = some o → b ∉ ex → ∃ o', h'.get? b = some o'
  tups : ∀ b xs, H b = some (.tup xs) → H' b = some (.tup xs)
  frzs : ∀ b o u, H b = some (.frz o u) → H' b = some (.frz o u)
  tbls : ∀ b ps, H b = some (.tbl ps) → ∃ more, H' b = some (.tbl (ps ++ more))
section
variable {fs fs' ex ex' : List Addr} {H H1 H2 : Hp} {h h1 h2 h' : Heap} {a x e : Addr} {o : HO}
theorem Un.any (u : Un fs ex H H1 h h1) {b : Addr} {ob : Obj} (q : h.get? b = some ob) (n : H b = none) (hx : b ∉ ex) : ∃ sl, h1.get? b = some { ob with slots := sl } := by
  by_cases hb : b ∈ fs
  · exact u.slot b ob q n hb hx
  · exact ⟨ob.slots, u.keep b ob q n hb hx⟩
theorem Un.kept (k : ∀ b u, h.get? b = some u → h'.get? b = some u) : Un fs ex H H h h' :=
  ⟨fun b ob q _ _ _ => k b ob q, fun b ob q _ _ _ => ⟨ob.slots, k b ob q⟩, fun _ _ _ n _ => n, fun b ob q _ => ⟨ob, k b ob q⟩, fun _ _ q => q, fun _ _ _ q => q, fun _ ps q => ⟨#[], by rw [q]; simp⟩⟩
theorem Un.refl : Un fs ex H H h h := Un.kept fun _ _ q => q
theorem Un.laid (k : ∀ b u, h.get? b = some u → h'.get? b = some u) (hp : h.objs.size ≤ a) (hn : H a = none) : Un fs ex H (upd H a o) h h' where
  keep := fun b u q _ _ _ => k b u q
  slot := fun b u q _ _ _ => ⟨u.slots, k b u q⟩
  free := fun b u q n _ => by rw [upd_ne (Nat.ne_of_lt (Nat.lt_of_lt_of_le (Heap.lt_size q) hp))]; exact n
  there := fun b u q _ => ⟨u, k b u q⟩
  tups := fun b xs q => by rw [upd_ne (ne_of_none q hn)]; exact q
  frzs := fun b u xs q => by rw [upd_ne (ne_of_none q hn)]; exact q
  tbls := fun b ps q => ⟨#[], by rw [upd_ne (ne_of_none q hn), q]; simp⟩
theorem Un.write (mu : Mut (H x)) (he : e = x ∨ H e = some (.own x)) (k : ∀ b u, b ≠ e → h.get? b = some u → h'.get? b = some u) (heo : ∃ u, h'.get? e = some u) : Un fs ex H (upd H x o) h h' := by
  have hx : ∀ b, H b = none → b ≠ x := fun b n z => by subst z; rw [n] at mu; exact mu
  have hb : ∀ b, H b = none → b ≠ e := fun b n z => by
    subst z
    rcases he with r | r
    · exact hx b n r
    · rw [n] at r; cases r
  have hm : ∀ b u, H b = some u → ¬ Mut (some u) → b ≠ x := fun b u q nm z => by subst z; rw [q] at mu; exact nm mu
  refine ⟨fun b u q n _ _ => k b u (hb b n) q, fun b u q n _ _ => ⟨u.slots, k b u (hb b n) q⟩, fun b u q n _ => by rw [upd_ne (hx b n)]; exact n, fun b u q _ => ?_,
    fun b xs q => by rw [upd_ne (hm b _ q fun z => z)]; exact q, fun b u xs q => by rw [upd_ne (hm b _ q fun z => z)]; exact q, fun b ps q => ⟨#[], by rw [upd_ne (hm b _ q fun z => z), q]; simp⟩⟩
  by_cases hbe : b = e
  · subst hbe; exact heo
  · exact ⟨u, k b u hbe q⟩
end

/-! ### the heap without what is tracked -/
def trk (h : Heap) (H : Hp) : List Addr := (List.range h.objs.size).filter fun a => (H a).isSome
def hidT (h : Heap) (H : Hp) : Heap := PySem.W.hideAll h (trk h H)
theorem hidT_size (h : Heap) (H : Hp) : (hidT h H).objs.size = h.objs.size := PySem.W.hideAll_size _ _
theorem hidT_get {h : Heap} {H : Hp} {b : Addr} {o : Obj} (e : h.get? b = some o) (n : H b = none) : (hidT h H).get? b = some o :=
  PySem.W.hideAll_get _ e fun hm => by
    have q : (H b).isSome = true := (List.mem_filter.mp hm).2
    rw [n] at q; simp at q
theorem of_hidT {h : Heap} {H : Hp} {b : Addr} {o : Obj} (e : (hidT h H).get? b = some o) : h.get? b = some o ∧ H b = none := by
  have e' : h.get? b = some o := PySem.W.of_hideAll (trk h H) e
  refine ⟨e', ?_⟩
  cases q : H b with
  | none => rfl
  | some x =>
    have hm : b ∈ trk h H := List.mem_filter.mpr ⟨List.mem_range.mpr (Heap.lt_size e'), by simp [q]⟩
    have z : (hidT h H).get? b = none := PySem.W.hideAll_none (trk h H) hm
    rw [z] at e; cases e

/-! ### OpenK's ledger, filled with every new object but one -/
end L2

namespace L2
open PySem PySem.Spec PyProof.Rows

/-- the module's facts, over the base: the heap at the law's entry without what is tracked there -/
structure Mod (K : PySem.W.Frag) (mg : Str → Option Value) (base : Heap) : Prop where
  kin : K.In base
  glob : base.Ns mainGlobals mg
  blt : ∃ mb, base.Ns builtinsNs mb ∧ ∀ x : Str, x ≠ "__name__" → mb x = bootBuiltins x
  nolimit : base.NoLimit

/-- the context: a def's body (or a comprehension's block) running. base: fixed through the whole law; s₀, H₀: the entry; outer: the frames whose slots others may change (a def's callers); stack: all frames that run;
   ex: iterators that were made ahead of the entry and are walked here (a comprehension's); fn: the names whose cells were made at the entry (a def: all; a comprehension's block: its own); calm: not within an except suite; pn: pins that every state bears; xe: what is wanted of an exception that leaves the code -/
structure Cx where
  prog : Program
  w : World
  K : PySem.W.Frag
  mg : Str → Option Value
  base : Heap
  A : Around
  N : List Str
  s_0 : Shared
  H_0 : Hp
  env : Env
  outer : List Env
  stack : List Env
  ex : List Addr
  fn : Str → Bool
  calm : Bool
  pn : List (Addr × Obj)
  xe : Value → Shared → Prop
/-- the callers' frames -/
def frs (l : List Env) : List Addr := l.filterMap (·.frame)
abbrev Cx.fs (X : Cx) : List Addr := frs X.outer

def Vis (sc : Scope) (x : Str) : Prop := sc.names.lookup x = some .local ∨ sc.names.lookup x = some .cell ∨ sc.names.lookup x = some .free
def Loc (sc : Scope) (x : Str) : Prop := sc.names.lookup x = some .local ∨ sc.names.lookup x = some .cell
def Look (env : Env) (h : Heap) (m : Str → Option Value) (x : Str) (u : Value) : Prop :=
  (env.kindOf x = some .local ∧ m x = some u) ∨ ((env.kindOf x = some .cell ∨ env.kindOf x = some .free) ∧ ∃ c, env.cells.lookup x = some c ∧ h.IsCell c (some u))

structure Cx.Ok (X : Cx) : Prop where
  mod : Mod X.K X.mg X.base
  kind : X.env.scope.kind = .function
  glob : X.env.globals = mainGlobals
  blt : X.env.builtins = builtinsNs
  above : X.s_0.heap.objs.size ≤ X.env.locals
  inj : ∀ x y c, X.env.cells.lookup x = some c → X.env.cells.lookup y = some c → x = y
  has : ∀ x, (X.env.kindOf x = some .cell ∨ X.env.kindOf x = some .free) → ∃ c, X.env.cells.lookup x = some c
  cab : ∀ x c, X.fn x = true → X.env.cells.lookup x = some c → X.s_0.heap.objs.size ≤ c
  hd : X.calm = true → X.A.handled = none
  frames : X.A.frames = some X.stack
  stk : X.stack = X.outer ∨ (X.stack = X.env :: X.outer ∧ X.env.frame = some X.env.locals)
  exf : ∀ b ∈ X.ex, b ≠ X.env.locals ∧ ∀ x c, X.env.cells.lookup x = some c → c ≠ b
  bs : ∀ b o, X.base.get? b = some o → X.s_0.heap.get? b = some o ∧ X.H_0 b = none
  bsz : X.base.objs.size ≤ X.s_0.heap.objs.size
  noex : ∀ b o, X.base.get? b = some o → b ∉ X.ex
  exfs : ∀ b ∈ X.ex, b ∉ X.fs
  funs : X.s_0.heap.FunFrames X.base X.outer
  frf : ∀ b ∈ X.fs, X.H_0 b = none

structure Inv (X : Cx) (pins : List (Addr × Obj)) (σ : List (Option V)) (H : Hp) (s : Shared) : Prop where
  ok : X.Ok
  os : s.os = X.s_0.os
  bare : AllBare s.gens
  base : Un X.fs X.ex X.H_0 H X.s_0.heap s.heap
  loc : ∃ m, s.heap.Ns X.env.locals m ∧ ∀ (i : Nat) (x : Str) (v : V), X.N[i]? = some x → σ[i]? = some (some v) → Vis X.env.scope x → ∃ u, RelV v u ∧ Look X.env s.heap m x u
  cell : ∀ x c, X.env.cells.lookup x = some c → ∃ v, s.heap.IsCell c v
  free : H X.env.locals = none
  freeC : ∀ x c, X.env.cells.lookup x = some c → H c = none
  pin : ∀ p ∈ X.pn ++ pins, s.heap.get? p.1 = some p.2 ∧ H p.1 = none ∧ p.1 ≠ X.env.locals ∧ p.1 ∉ X.fs ∧ ∀ v, p.2.data ≠ .cell v
  hok : HOk X.prog X.w H s.heap
  len : σ.length = X.N.length

section
variable {X : Cx} {pins : List (Addr × Obj)} {σ : List (Option V)} {H H' : Hp} {s : Shared} {h' : Heap}

theorem Cx.Ok.nofr (ok : X.Ok) {b : Addr} {o : Obj} (e : X.base.get? b = some o) : b ∉ X.fs := fun hb => by
  have := (ok.funs.mem hb).1
  rw [e] at this; cases this
theorem Inv.bs (I : Inv X pins σ H s) : ∀ b o, X.base.get? b = some o → s.heap.get? b = some o ∧ H b = none := fun b o e =>
  ⟨I.base.keep b o (I.ok.bs b o e).1 (I.ok.bs b o e).2 (I.ok.nofr e) (I.ok.noex b o e), I.base.free b o (I.ok.bs b o e).1 (I.ok.bs b o e).2 (I.ok.noex b o e)⟩
theorem Inv.bk (I : Inv X pins σ H s) : ∀ b o, X.base.get? b = some o → s.heap.get? b = some o := fun b o e => (I.bs b o e).1
theorem Inv.mod (I : Inv X pins σ H s) : Mod X.K X.mg X.base := I.ok.mod
theorem Inv.kIn (I : Inv X pins σ H s) : X.K.In s.heap := I.ok.mod.kin.keeps I.bk
/-- the frame over the base: for OpenK's rules (K.In X.base is I.mod.kin) -/
theorem Inv.fr (I : Inv X pins σ H s) : ∃ m, Fr X.base X.env.locals s.heap m :=
  let ⟨m, hn, _⟩ := I.loc
  ⟨m, hn, I.bk, Nat.le_trans I.ok.bsz I.ok.above⟩
theorem Inv.lt (I : Inv X pins σ H s) : X.env.locals < s.heap.objs.size := let ⟨_, hn, _⟩ := I.loc; hn.lt
theorem Inv.sz (I : Inv X pins σ H s) : X.s_0.heap.objs.size ≤ s.heap.objs.size := Nat.le_trans I.ok.above (Nat.le_of_lt I.lt)
theorem Inv.nofs (I : Inv X pins σ H s) {a : Addr} (h : s.heap.objs.size ≤ a) : a ∉ X.fs := fun hb => by
  obtain ⟨_, o, ho, _⟩ := I.ok.funs.mem hb
  exact absurd (Nat.lt_of_lt_of_le (Heap.lt_size ho) (Nat.le_trans I.sz h)) (Nat.lt_irrefl _)
theorem Inv.cne (I : Inv X pins σ H s) : ∀ x c, X.env.cells.lookup x = some c → c ≠ X.env.locals := fun x c e z => by
  obtain ⟨v, o, ho, hd⟩ := I.cell x c e
  obtain ⟨m, ⟨o', es, ep, ho', hd', _⟩, _⟩ := I.loc
  rw [z, ho'] at ho; cases ho; rw [hd'] at hd; cases hd
theorem Inv.funs (I : Inv X pins σ H s) : s.heap.FunFrames X.base X.outer := by
  have all : ∀ (l : List Env), (∀ b ∈ frs l, b ∈ X.fs) → X.s_0.heap.FunFrames X.base l → s.heap.FunFrames X.base l := by
    intro l
    induction l with
    | nil => intro _ _; trivial
    | cons env r ih =>
      intro hs hl
      obtain ⟨hk, ⟨L, o, hf, hn, ho, hd⟩, hr⟩ := hl
      have hL : L ∈ X.fs := hs L (by unfold frs; rw [List.filterMap_cons, hf]; exact List.mem_cons_self)
      obtain ⟨sl, e⟩ := I.base.slot L o ho (I.ok.frf L hL) hL fun z => I.ok.exfs L z hL
      exact ⟨hk, ⟨L, _, hf, hn, e, hd⟩, ih (fun b hb => hs b (by unfold frs; rw [List.filterMap_cons, hf]; exact List.mem_cons_of_mem _ hb)) hr⟩
  exact all X.outer (fun _ hb => hb) I.ok.funs

/-- the frames that run, for a call -/
theorem Inv.stack (I : Inv X pins σ H s) : s.heap.FunFrames X.base X.stack := by
  rcases I.ok.stk with e | ⟨e, hf⟩
  · rw [e]; exact I.funs
  · rw [e]
    obtain ⟨m, hn, _⟩ := I.loc
    refine .cons (by rw [I.ok.kind]; decide) hf hn ?_ I.funs
    exact Heap.get?_none_of_le (Nat.le_trans I.ok.bsz I.ok.above)
theorem Inv.stkSub (I : Inv X pins σ H s) : ∀ b ∈ frs X.stack, b ∈ X.env.locals :: X.fs := fun b hb => by
  rcases I.ok.stk with e | ⟨e, hf⟩
  · rw [e] at hb; exact List.mem_cons_of_mem _ hb
  · rw [e] at hb
    unfold frs at hb
    rw [List.filterMap_cons, hf] at hb
    exact hb
theorem Inv.stkFree (I : Inv X pins σ H s) : ∀ b ∈ frs X.stack, H b = none := fun b hb => by
  rcases List.mem_cons.mp (I.stkSub b hb) with e | hb
  · rw [e]; exact I.free
  · obtain ⟨_, o, ho, _⟩ := I.ok.funs.mem hb
    exact I.base.free b o ho (I.ok.frf b hb) fun z => I.ok.exfs b z hb

/-- THE STEP: the untracked objects but the frame and the records at ch are kept (the callers' frames up to slots), the frame's map is kept, the new abstract heap is held -/
theorem Inv.step {g' : Array GenState} {t' : Nat} {d' : Drawn} {ch : List Addr} (I : Inv X pins σ H s)
    (hch : ∀ b ∈ ch, (b ∈ X.ex ∨ X.s_0.heap.objs.size ≤ b) ∧ b ≠ X.env.locals ∧ (∀ x c, X.env.cells.lookup x = some c → c ≠ b) ∧ ∀ p ∈ X.pn ++ pins, p.1 ≠ b)
    (keep : ∀ b o, b ≠ X.env.locals → b ∉ X.fs → b ∉ ch → s.heap.get? b = some o → H b = none → h'.get? b = some o)
    (slot : ∀ b o, b ≠ X.env.locals → b ∈ X.fs → b ∉ ch → s.heap.get? b = some o → H b = none → ∃ sl, h'.get? b = some { o with slots := sl }) (free : ∀ b o, b ∉ ch → s.heap.get? b = some o → H b = none → H' b = none)
    (there : ∀ b o, b ∉ ch → s.heap.get? b = some o → ∃ o', h'.get? b = some o')
    (tups : ∀ b xs, H b = some (.tup xs) → H' b = some (.tup xs)) (frzs : ∀ b o u, H b = some (.frz o u) → H' b = some (.frz o u)) (tbls : ∀ b ps, H b = some (.tbl ps) → ∃ more, H' b = some (.tbl (ps ++ more)))
    (ns : ∀ m, s.heap.Ns X.env.locals m → h'.Ns X.env.locals m) (hok : HOk X.prog X.w H' h') (hg : AllBare g') :
    Inv X pins σ H' { s with heap := h', gens := g', drawn := d', toks := t' } := by
  have neL : ∀ b o, X.s_0.heap.get? b = some o → b ≠ X.env.locals := fun b o e => Nat.ne_of_lt (Nat.lt_of_lt_of_le (Heap.lt_size e) I.ok.above)
  have neC : ∀ b o, X.s_0.heap.get? b = some o → b ∉ X.ex → b ∉ ch := fun b o e hx hb => by
    rcases (hch b hb).1 with z | z
    · exact hx z
    · exact absurd (Nat.lt_of_lt_of_le (Heap.lt_size e) z) (Nat.lt_irrefl _)
  have cellK : ∀ x c, X.env.cells.lookup x = some c → ∀ v, s.heap.IsCell c v → h'.IsCell c v := fun x c e v ⟨o, ho, hd⟩ => by
    have nch : c ∉ ch := fun z => (hch c z).2.2.1 x c e rfl
    by_cases hc : c ∈ X.fs
    · obtain ⟨sl, q⟩ := slot c o (I.cne x c e) hc nch ho (I.freeC x c e)
      exact ⟨_, q, hd⟩
    · exact ⟨o, keep c o (I.cne x c e) hc nch ho (I.freeC x c e), hd⟩
  refine ⟨I.ok, I.os, hg, ⟨fun b o e n hb hx => ?_, fun b o e n hb hx => ?_, fun b o e n hx => ?_, fun b o e hx => ?_, fun b xs e => tups b xs (I.base.tups b xs e), fun b o xs e => frzs b o xs (I.base.frzs b o xs e), fun b ps e => ?_⟩, ?_, fun x c e => ?_, ?_, fun x c e => ?_, fun p hp => ?_, hok, I.len⟩
  · exact keep b o (neL b o e) hb (neC b o e hx) (I.base.keep b o e n hb hx) (I.base.free b o e n hx)
  · obtain ⟨sl, e1⟩ := I.base.slot b o e n hb hx
    obtain ⟨sl', e2⟩ := slot b _ (neL b o e) hb (neC b o e hx) e1 (I.base.free b o e n hx)
    exact ⟨sl', e2⟩
  · obtain ⟨o', e1⟩ := I.base.there b o e hx
    exact free b o' (neC b o e hx) e1 (I.base.free b o e n hx)
  · obtain ⟨o', e1⟩ := I.base.there b o e hx
    exact there b o' (neC b o e hx) e1
  · obtain ⟨m1, e1⟩ := I.base.tbls b ps e
    obtain ⟨m2, e2⟩ := tbls b _ e1
    exact ⟨m1 ++ m2, by rw [e2, Array.append_assoc]⟩
  · obtain ⟨m, hn, hl⟩ := I.loc
    refine ⟨m, ns m hn, fun i x v e1 e2 e3 => ?_⟩
    obtain ⟨u, r, l⟩ := hl i x v e1 e2 e3
    refine ⟨u, r, ?_⟩
    rcases l with l | ⟨k, c, e, z⟩
    · exact .inl l
    · exact .inr ⟨k, c, e, cellK x c e _ z⟩
  · obtain ⟨v, z⟩ := I.cell x c e
    exact ⟨v, cellK x c e v z⟩
  · obtain ⟨m, ⟨o, _, _, ho, _⟩, _⟩ := I.loc
    exact free _ o (fun z => (hch _ z).2.1 rfl) ho I.free
  · obtain ⟨v, o, ho, hd⟩ := I.cell x c e
    exact free c o (fun z => (hch c z).2.2.1 x c e rfl) ho (I.freeC x c e)
  · obtain ⟨e, n, ne, nf, d⟩ := I.pin p hp
    have nch : p.1 ∉ ch := fun z => (hch p.1 z).2.2.2 p hp rfl
    exact ⟨keep p.1 p.2 ne nf nch e n, free p.1 p.2 nch e n, ne, nf, d⟩
/-- .. where the frame's own object is kept too -/
theorem Inv.un {t' : Nat} (I : Inv X pins σ H s) (u : Un X.fs [] H H' s.heap h') (hok : HOk X.prog X.w H' h') : Inv X pins σ H' { s with heap := h', toks := t' } := by
  obtain ⟨m, ⟨o, es, ep, ho, r⟩, _⟩ := id I.loc
  obtain ⟨sl, hL⟩ := u.any ho I.free (by simp)
  exact I.step (g' := s.gens) (d' := s.drawn) (ch := []) (fun _ z => nomatch z) (fun b o _ hb _ e n => u.keep b o e n hb (by simp)) (fun b o _ hb _ e n => u.slot b o e n hb (by simp)) (fun b o _ e n => u.free b o e n (by simp)) (fun b o _ e => u.there b o e (by simp)) u.tups u.frzs u.tbls (fun m' hm => by
    obtain ⟨o', es', ep', ho', r'⟩ := hm
    rw [ho] at ho'; cases ho'
    exact ⟨_, es', ep', hL, r'⟩) hok I.bare
/-- behind a call (or a comprehension's block): the slots of this frame may have changed too, the records at ch may have turned -/
theorem Inv.call {g' : Array GenState} {t' : Nat} {d' : Drawn} {ch : List Addr} (I : Inv X pins σ H s) (u : Un (frs X.stack) ch H H' s.heap h') (hok : HOk X.prog X.w H' h') (hg : AllBare g')
    (hch : ∀ b ∈ ch, (b ∈ X.ex ∨ X.s_0.heap.objs.size ≤ b) ∧ b ≠ X.env.locals ∧ (∀ x c, X.env.cells.lookup x = some c → c ≠ b) ∧ ∀ p ∈ X.pn ++ pins, p.1 ≠ b) :
    Inv X pins σ H' { s with heap := h', gens := g', drawn := d', toks := t' } := by
  obtain ⟨m, ⟨o, es, ep, ho, r⟩, _⟩ := id I.loc
  obtain ⟨sl, hL⟩ := u.any ho I.free fun z => (hch _ z).2.1 rfl
  exact I.step (ch := ch) hch (fun b o hL hb hc e n => u.keep b o e n (fun z => (List.mem_cons.mp (I.stkSub b z)).elim hL hb) hc) (fun b o _ _ hc e n => u.any e n hc) (fun b o hc e n => u.free b o e n hc) (fun b o hc e => u.there b o e hc) u.tups u.frzs u.tbls (fun m' hm => by
    obtain ⟨o', es', ep', ho', r'⟩ := hm
    rw [ho] at ho'; cases ho'
    exact ⟨_, es', ep', hL, r'⟩) hok hg
/-- an untracked record of ours (an iterator) has turned -/
theorem Inv.turned {t' : Nat} {it : Addr} (I : Inv X pins σ H s) (k : ∀ b o, b ≠ it → s.heap.get? b = some o → h'.get? b = some o) (hn : H it = none) (hL : it ≠ X.env.locals)
    (h1 : it ∈ X.ex ∨ X.s_0.heap.objs.size ≤ it) (h2 : ∀ x c, X.env.cells.lookup x = some c → c ≠ it) (h3 : ∀ p ∈ X.pn ++ pins, p.1 ≠ it) : Inv X pins σ H { s with heap := h', toks := t' } := by
  have nit : ∀ b u, H b = some u → b ≠ it := fun b u e z => by rw [z, hn] at e; cases e
  refine I.step (g' := s.gens) (d' := s.drawn) (ch := [it]) (fun b hb => ?_) (fun b o _ _ hc e _ => k b o (fun z => hc (by simp [z])) e) (fun b o _ _ hc e _ => ⟨o.slots, k b o (fun z => hc (by simp [z])) e⟩) (fun _ _ _ _ n => n)
    (fun b o hc e => ⟨o, k b o (fun z => hc (by simp [z])) e⟩) (fun _ _ e => e) (fun _ _ _ e => e) (fun b ps e => ⟨#[], by rw [e]; simp⟩) (fun m hm => ?_) (fun b u e => ?_) I.bare
  · have e : b = it := by simpa using hb
    subst e
    exact ⟨h1, hL, h2, h3⟩
  · obtain ⟨o, es, ep, ho, r⟩ := hm
    exact ⟨o, es, ep, k _ o (Ne.symm hL) ho, r⟩
  · refine (I.hok b u e).stay (fun c v hc q => k c v ?_ q) (fun _ q => q) fun _ _ q => q
    rcases hc with z | z
    · rw [z]; exact nit b u e
    · exact nit c _ z
theorem Inv.tok (I : Inv X pins σ H s) (t : Nat) : Inv X pins σ H { s with toks := t } := I.un (h' := s.heap) (t' := t) Un.refl I.hok
/-- all objects kept -/
theorem Inv.kept {t' : Nat} (I : Inv X pins σ H s) (k : ∀ b u, s.heap.get? b = some u → h'.get? b = some u) : Inv X pins σ H { s with heap := h', toks := t' } := I.un (Un.kept k) (I.hok.kept k)
/-- a new object laid and tracked -/
theorem Inv.laid {a : Addr} {o : HO} {t' : Nat} (I : Inv X pins σ H s) (k : ∀ b u, s.heap.get? b = some u → h'.get? b = some u) (hp : s.heap.objs.size ≤ a) (new : ObjOk X.prog X.w (upd H a o) h' a o) :
    Inv X pins σ (upd H a o) { s with heap := h', toks := t' } := I.un (Un.laid k hp (I.hok.fresh hp)) (I.hok.laid k hp new)
/-- an object written -/
theorem Inv.write {x e : Addr} {o : HO} {t' : Nat} (I : Inv X pins σ H s) (mu : Mut (H x)) (he : e = x ∨ H e = some (.own x)) (k : ∀ b u, b ≠ e → s.heap.get? b = some u → h'.get? b = some u) (heo : ∃ u, h'.get? e = some u)
    (new : ObjOk X.prog X.w (upd H x o) h' x o) : Inv X pins σ (upd H x o) { s with heap := h', toks := t' } := I.un (Un.write mu he k heo) (I.hok.write mu he k heo new)
/-- forgetting slots, pins -/
theorem Inv.weak {σ' : List (Option V)} (I : Inv X pins σ H s) (hl : σ'.length = σ.length) (w : ∀ (i : Nat) v, σ'[i]? = some (some v) → σ[i]? = some (some v)) : Inv X pins σ' H s :=
  ⟨I.ok, I.os, I.bare, I.base, let ⟨m, hn, hl'⟩ := I.loc; ⟨m, hn, fun i x v e1 e2 e3 => hl' i x v e1 (w i v e2) e3⟩, I.cell, I.free, I.freeC, I.pin, I.hok, hl.trans I.len⟩
theorem Inv.pins_of {pins' : List (Addr × Obj)} (I : Inv X pins σ H s) (h : ∀ p ∈ pins', s.heap.get? p.1 = some p.2 ∧ H p.1 = none ∧ p.1 ≠ X.env.locals ∧ p.1 ∉ X.fs ∧ ∀ v, p.2.data ≠ .cell v) : Inv X pins' σ H s :=
  ⟨I.ok, I.os, I.bare, I.base, I.loc, I.cell, I.free, I.freeC, fun p hp => (List.mem_append.mp hp).elim (fun z => I.pin p (List.mem_append_left _ z)) (h p), I.hok, I.len⟩

theorem nodup_ix {N : List Str} (hN : N.Nodup) {i j : Nat} {x : Str} (a : N[i]? = some x) (b : N[j]? = some x) : i = j := by
  obtain ⟨h1, e1⟩ := List.getElem?_eq_some_iff.mp a
  obtain ⟨h2, e2⟩ := List.getElem?_eq_some_iff.mp b
  exact (List.getElem_inj hN).mp (e1.trans e2.symm)

/-- a name is stored; what changed -/
theorem store_ok2 {M : Model} {A : Around} {E : Value → Shared → Prop} {i : Nat} {x : Str} {v : V} {u : Value} {Q : Unit → Shared → Prop} (I : Inv X pins σ H s) (hN : X.N.Nodup) (hi : X.N[i]? = some x) (hx : Loc X.env.scope x) (r : RelV v u)
    (h : ∀ s', Inv X pins (σ.set i (some v)) H s' → (∃ a, Heap.SameBut a s.heap s'.heap ∧ (a = X.env.locals ∨ X.env.cells.lookup x = some a)) → Q () s') (hf : X.fn x = true ∨ X.env.scope.names.lookup x = some .local := by first | exact .inl rfl | exact .inr rfl | assumption) : wpAny M A (storeName X.env x u) Q E s := by
  obtain ⟨m, hn, hl⟩ := id I.loc
  have hcls : (X.env.scope.kind == .class || (X.env.scope.kind == .module && X.env.locals != X.env.globals)) = false := by rw [I.ok.kind]; rfl
  have hiσ : i < σ.length := by rw [I.len]; exact (List.getElem?_eq_some_iff.mp hi).1
  have cne := I.cne
  have tracked : ∀ {a : Addr} {h' : Heap}, (∃ o, s.heap.get? a = some o ∧ H a = none) → Heap.SameBut a s.heap h' → HOk X.prog X.w H h' := fun {a h'} ha hs b ob e => by
    obtain ⟨_, _, hfree⟩ := ha
    refine (I.hok b ob e).stay (fun c w' hc q => (hs.2 c ?_).trans q) (fun _ q => q) fun _ _ q => q
    rintro rfl
    rcases hc with rfl | hc
    · rw [hfree] at e; cases e
    · rw [hfree] at hc; cases hc
  rcases hx with hk | hk
  · refine wpAny_storeName_local hk hn (fun h' hn' hs => ?_) hcls
    obtain ⟨oL, _, _, hoL, _⟩ := id hn
    refine h _ ⟨I.ok, I.os, I.bare, ⟨fun b o e n hb hx => ?_, fun b o e n hb hx => ?_, I.base.free, fun b o e hx => ?_, I.base.tups, I.base.frzs, I.base.tbls⟩, ⟨_, hn', fun j y v' e1 e2 e3 => ?_⟩, fun y c e => ?_, I.free, I.freeC, fun p hp => ?_, tracked ⟨oL, hoL, I.free⟩ hs, by simpa using I.len⟩ ⟨_, hs, .inl rfl⟩
    · exact (hs.2 b (Nat.ne_of_lt (Nat.lt_of_lt_of_le (Heap.lt_size e) I.ok.above))).trans (I.base.keep b o e n hb hx)
    · obtain ⟨sl, e1⟩ := I.base.slot b o e n hb hx
      exact ⟨sl, (hs.2 b (Nat.ne_of_lt (Nat.lt_of_lt_of_le (Heap.lt_size e) I.ok.above))).trans e1⟩
    · obtain ⟨o', e1⟩ := I.base.there b o e hx
      exact ⟨o', (hs.2 b (Nat.ne_of_lt (Nat.lt_of_lt_of_le (Heap.lt_size e) I.ok.above))).trans e1⟩
    · by_cases hj : j = i
      · subst hj
        rw [hi] at e1; cases e1
        rw [List.getElem?_set_self hiσ] at e2
        cases e2
        exact ⟨u, r, .inl ⟨hk, by simp⟩⟩
      · rw [List.getElem?_set_ne (Ne.symm hj)] at e2
        obtain ⟨u', r', q⟩ := hl j y v' e1 e2 e3
        refine ⟨u', r', ?_⟩
        rcases q with ⟨k, e⟩ | ⟨k, c, e, z⟩
        · refine .inl ⟨k, ?_⟩
          have : y ≠ x := fun e => hj (nodup_ix hN e1 (e ▸ hi))
          simp [this, e]
        · exact .inr ⟨k, c, e, z.sameBut hs (cne y c e)⟩
    · obtain ⟨w', z⟩ := I.cell y c e
      exact ⟨w', z.sameBut hs (cne y c e)⟩
    · obtain ⟨e, n, ne, nf, d⟩ := I.pin p hp
      exact ⟨(hs.2 p.1 ne).trans e, n, ne, nf, d⟩
  · have hfn : X.fn x = true := by
      rcases hf with z | z
      · exact z
      · rw [z] at hk; cases hk
    obtain ⟨c, hc⟩ := I.ok.has x (.inl hk)
    obtain ⟨w', z⟩ := I.cell x c hc
    refine wpAny_storeName_cell I.ok.kind hk hc z (fun h' hc' hs => ?_)
    obtain ⟨oc, hoc, hocd⟩ := id z
    refine h { s with heap := h' } ⟨I.ok, I.os, I.bare, ⟨fun b o e n hb hx => ?_, fun b o e n hb hx => ?_, I.base.free, fun b o e hx => ?_, I.base.tups, I.base.frzs, I.base.tbls⟩, ⟨m, hn.sameBut hs (Ne.symm (cne x c hc)), fun j y v' e1 e2 e3 => ?_⟩, fun y c' e => ?_, I.free, I.freeC, fun p hp => ?_, tracked ⟨oc, hoc, I.freeC x c hc⟩ hs, by simpa using I.len⟩ ⟨c, hs, .inr hc⟩
    · exact (hs.2 b (Nat.ne_of_lt (Nat.lt_of_lt_of_le (Heap.lt_size e) (I.ok.cab x c hfn hc)))).trans (I.base.keep b o e n hb hx)
    · obtain ⟨sl, e1⟩ := I.base.slot b o e n hb hx
      exact ⟨sl, (hs.2 b (Nat.ne_of_lt (Nat.lt_of_lt_of_le (Heap.lt_size e) (I.ok.cab x c hfn hc)))).trans e1⟩
    · obtain ⟨o', e1⟩ := I.base.there b o e hx
      exact ⟨o', (hs.2 b (Nat.ne_of_lt (Nat.lt_of_lt_of_le (Heap.lt_size e) (I.ok.cab x c hfn hc)))).trans e1⟩
    · by_cases hj : j = i
      · subst hj
        rw [hi] at e1; cases e1
        rw [List.getElem?_set_self hiσ] at e2
        cases e2
        exact ⟨u, r, .inr ⟨.inl hk, c, hc, hc'⟩⟩
      · rw [List.getElem?_set_ne (Ne.symm hj)] at e2
        obtain ⟨u', r', q⟩ := hl j y v' e1 e2 e3
        refine ⟨u', r', ?_⟩
        rcases q with q | ⟨k, c', e, z'⟩
        · exact .inl q
        · refine .inr ⟨k, c', e, z'.sameBut hs ?_⟩
          rintro rfl
          exact hj (nodup_ix hN e1 (I.ok.inj _ _ _ e hc ▸ hi))
    · by_cases hcc : c' = c
      · subst hcc; exact ⟨_, hc'⟩
      · obtain ⟨w2, z2⟩ := I.cell y c' e
        exact ⟨w2, z2.sameBut hs hcc⟩
    · obtain ⟨e, n, ne, nf, d⟩ := I.pin p hp
      refine ⟨(hs.2 p.1 ?_).trans e, n, ne, nf, d⟩
      intro q
      rw [q, hoc] at e
      have q' : oc = p.2 := Option.some.inj e
      exact d w' (by rw [← q']; exact hocd)
theorem store_ok {M : Model} {A : Around} {E : Value → Shared → Prop} {i : Nat} {x : Str} {v : V} {u : Value} {Q : Unit → Shared → Prop} (I : Inv X pins σ H s) (hN : X.N.Nodup) (hi : X.N[i]? = some x) (hx : Loc X.env.scope x) (r : RelV v u)
    (h : ∀ s', Inv X pins (σ.set i (some v)) H s' → Q () s') (hf : X.fn x = true ∨ X.env.scope.names.lookup x = some .local := by first | exact .inl rfl | exact .inr rfl | assumption) : wpAny M A (storeName X.env x u) Q E s :=
  store_ok2 I hN hi hx r (fun s' I' _ => h s' I') hf
/-- behind a call or a block, the state as it is -/
theorem Inv.call' {s' : Shared} {ch : List Addr} (I : Inv X pins σ H s) (ho : s'.os = s.os) (u : Un (frs X.stack) ch H H' s.heap s'.heap) (hok : HOk X.prog X.w H' s'.heap) (hg : AllBare s'.gens)
    (hch : ∀ b ∈ ch, (b ∈ X.ex ∨ X.s_0.heap.objs.size ≤ b) ∧ b ≠ X.env.locals ∧ (∀ x c, X.env.cells.lookup x = some c → c ≠ b) ∧ ∀ p ∈ X.pn ++ pins, p.1 ≠ b) : Inv X pins σ H' s' := by
  obtain ⟨h', g', d', t', o'⟩ := s'
  have e : o' = s.os := ho
  subst e
  exact I.call (g' := g') (t' := t') (d' := d') u hok hg hch
end

/-! ### the judgements -/
/-- an exception: its class, its own dict's address (where it has one), the abstract heap behind it -/
abbrev XK := Value → Option Addr → Hp → Prop
abbrev St := List (Option V)
abbrev VK := V → Hp → Prop
/-- an expression's reading; a test's; an argument list's -/
abbrev TE := St → Hp → VK → Prop
abbrev TT := St → Hp → (Bool → Hp → Prop) → Prop
abbrev TA := St → Hp → (List V → Hp → Prop) → Prop
/-- what is wanted behind a statement -/
structure Ends where
  nx : St → Hp → Prop
  rt : VK
  bk : St → Hp → Prop := fun _ _ => False
  ct : St → Hp → Prop := fun _ _ => False
abbrev TS := Ends → St → Hp → Prop

def EP (X : Cx) (pins : List (Addr × Obj)) (σ : St) (Q : VK) (u : Value) (s' : Shared) : Prop := ∃ v H', Inv X pins σ H' s' ∧ RelV v u ∧ Q v H'
def TP (X : Cx) (pins : List (Addr × Obj)) (σ : St) (Q : Bool → Hp → Prop) (b : Bool) (s' : Shared) : Prop := ∃ H', Inv X pins σ H' s' ∧ Q b H'
def AP (X : Cx) (pins : List (Addr × Obj)) (σ : St) (Q : List V → Hp → Prop) (us : List Value) (s' : Shared) : Prop := ∃ vs H', Inv X pins σ H' s' ∧ Vals vs us ∧ Q vs H'
def SP (X : Cx) (pins : List (Addr × Obj)) (D : Ends) (f : Flow) (s' : Shared) : Prop :=
  match f with
  | .next => ∃ σ' H', Inv X pins σ' H' s' ∧ D.nx σ' H'
  | .brk => ∃ σ' H', Inv X pins σ' H' s' ∧ D.bk σ' H'
  | .cont => ∃ σ' H', Inv X pins σ' H' s' ∧ D.ct σ' H'
  | .ret u => ∃ v σ' H', Inv X pins σ' H' s' ∧ RelV v u ∧ D.rt v H'

def PE (X : Cx) (e : Expr) (t : TE) : Prop :=
  ∀ (pins : List (Addr × Obj)) (s : Shared) (σ : St) (H : Hp) (Q : VK), Inv X pins σ H s → t σ H Q → wpAny (model X.prog X.w) X.A (eval e X.env) (EP X pins σ Q) X.xe s
def PT (X : Cx) (e : Expr) (t : TT) : Prop :=
  ∀ (pins : List (Addr × Obj)) (s : Shared) (σ : St) (H : Hp) (Q : Bool → Hp → Prop), Inv X pins σ H s → t σ H Q → wpAny (model X.prog X.w) X.A (isTrue e X.env (eval e X.env)) (TP X pins σ Q) X.xe s
/-- a test whatever its 'whole' is (and, or) -/
def PW (X : Cx) (e : Expr) (t : TT) : Prop :=
  ∀ (whole : Sem Value) (pins : List (Addr × Obj)) (s : Shared) (σ : St) (H : Hp) (Q : Bool → Hp → Prop), Inv X pins σ H s → t σ H Q → wpAny (model X.prog X.w) X.A (isTrue e X.env whole) (TP X pins σ Q) X.xe s
theorem PW.pt {X : Cx} {e : Expr} {t : TT} (h : PW X e t) : PT X e t := h _
/-- an argument list (no star), from the left -/
def PA (X : Cx) (es : List Expr) (t : TA) : Prop :=
  ∀ (pos : Pos) (pins : List (Addr × Obj)) (s : Shared) (σ : St) (H : Hp) (Q : List V → Hp → Prop), Inv X pins σ H s → t σ H Q → wpAny (model X.prog X.w) X.A (spliced (backTo pos (starEach es X.env))) (AP X pins σ Q) X.xe s
def PS (X : Cx) (st : Stmt) (t : TS) : Prop :=
  ∀ (pins : List (Addr × Obj)) (s : Shared) (σ : St) (H : Hp) (D : Ends), Inv X pins σ H s → t D σ H → wpAny (model X.prog X.w) X.A (exec st X.env) (SP X pins D) X.xe s
def PSs (X : Cx) (st : List Stmt) (t : TS) : Prop :=
  ∀ (pins : List (Addr × Obj)) (s : Shared) (σ : St) (H : Hp) (D : Ends), Inv X pins σ H s → t D σ H → wpAny (model X.prog X.w) X.A (execs st X.env) (SP X pins D) X.xe s
/-- weaken the end -/
theorem thn {α : Type} {t : Sem α} {Q Q' : α → Shared → Prop} {M : Model} {A : Around} {E : Value → Shared → Prop} {s : Shared} (h : wpAny M A t Q E s) (hQ : ∀ a s, Q a s → Q' a s) : wpAny M A t Q' E s := wpAny_mono h hQ fun _ _ x => x
end L2

namespace L2
open PySem PySem.Spec PyProof.Rows
section
variable {X : Cx}

/-- two expressions in a row -/
theorem bin {a b : Expr} {ta tb : TE} (ha : PE X a ta) (hb : PE X b tb) {pins : List (Addr × Obj)} {s : Shared} {σ : St} {H : Hp} {R : V → V → Hp → Prop} (I : Inv X pins σ H s) (h : ta σ H fun x H1 => tb σ H1 fun y H2 => R x y H2)
    {α : Type} {Q : α → Shared → Prop} {f : Value → Value → Sem α}
    (hf : ∀ v u s2 x y H2, Inv X pins σ H2 s2 → RelV x v → RelV y u → R x y H2 → wpAny (model X.prog X.w) X.A (f v u) Q X.xe s2) :
    wpAny (model X.prog X.w) X.A (eval a X.env) (fun v s₁ => wpAny (model X.prog X.w) X.A (eval b X.env) (fun u s₂ => wpAny (model X.prog X.w) X.A (f v u) Q X.xe s₂) X.xe s₁) X.xe s := by
  refine thn (ha pins s σ H _ I h) fun v s1 ⟨x, H1, I1, r1, q1⟩ => ?_
  refine thn (hb pins s1 σ H1 _ I1 q1) fun u s2 ⟨y, H2, I2, r2, q2⟩ => ?_
  exact hf v u s2 x y H2 I2 r1 r2 q2

/-! ### names and constants -/
def tVar (i : Nat) : TE := fun σ H Q => ∃ v, σ[i]? = some (some v) ∧ Q v H
def tC (v : V) : TE := fun _ H Q => Q v H
theorem pe_var {i : Nat} {x : Str} {pos : Pos} (hN : X.N[i]? = some x) (hv : Vis X.env.scope x) (hd : (x == ("__debug__" : Str)) = false := by decide) (hcd : (x == ("__classdict__" : Str)) = false := by decide) : PE X (.Name x pos) (tVar i) := by
  intro pins s σ H Q I h
  obtain ⟨v, e, h⟩ := h
  obtain ⟨m, hn, hl⟩ := I.loc
  obtain ⟨u, r, l⟩ := hl i x v hN e hv
  have fin : EP X pins σ Q u s := ⟨v, H, I, r, h⟩
  rcases l with ⟨hk, hm⟩ | ⟨hk, c, hc, hcell⟩
  · exact wpAny_Name (wpAny_loadName_local I.ok.kind hk hn hm fin) hd
  · rcases hk with hk | hk
    · exact wpAny_Name (wpAny_loadName_cell I.ok.kind hk hc hcell fin) hd
    · exact wpAny_Name (wpAny_loadName_free I.ok.kind hk hc hcell fin hcd) hd
theorem pe_int {i j pos} : PE X (.Constant (.int i) j pos) (tC (.int i)) := fun _ _ _ H _ I h => wpAny_Constant_int ⟨.int i, H, I.tok _, ⟨_, rfl⟩, h⟩
/-- a global name of the def -/
def Gl (X : Cx) (x : Str) : Prop := X.env.kindOf x = some .globalImplicit
theorem ld_glob {E : Value → Shared → Prop} {pins : List (Addr × Obj)} {s : Shared} {σ : St} {H : Hp} {x : Str} {u : Value} {pos : Pos} {Q : Value → Shared → Prop} (I : Inv X pins σ H s) (hg : Gl X x) (hm : X.mg x = some u) (h : Q u s)
    (hd : (x == ("__debug__" : Str)) = false := by decide) : wpAny (model X.prog X.w) X.A (eval (.Name x pos) X.env) Q E s :=
  Calls.Name_function_global I.ok.kind hg (Calls.loadGlobal_global (by rw [I.ok.glob]; exact I.mod.glob.keeps I.bk) hm h) hd
theorem ld_blt {E : Value → Shared → Prop} {pins : List (Addr × Obj)} {s : Shared} {σ : St} {H : Hp} {x : Str} {u : Value} {pos : Pos} {Q : Value → Shared → Prop} (I : Inv X pins σ H s) (hg : Gl X x) (hm : X.mg x = none) (hv : bootBuiltins x = some u) (h : Q u s)
    (hn : x ≠ "__name__" := by decide) (hd : (x == ("__debug__" : Str)) = false := by decide) : wpAny (model X.prog X.w) X.A (eval (.Name x pos) X.env) Q E s := by
  obtain ⟨mb, h1, h2⟩ := I.mod.blt
  exact Calls.Name_function_global I.ok.kind hg (Calls.loadGlobal_builtin (by rw [I.ok.glob]; exact I.mod.glob.keeps I.bk) hm (by rw [I.ok.blt]; exact h1.keeps I.bk) ((h2 x hn).trans hv) h) hd
/-- a module's constant, a class, a function, as a value -/
theorem pe_glob {x : Str} {v : V} {u : Value} {pos : Pos} (hg : Gl X x) (hm : X.mg x = some u) (r : RelV v u) (hd : (x == ("__debug__" : Str)) = false := by decide) : PE X (.Name x pos) (tC v) :=
  fun _ _ _ H _ I h => ld_glob I hg hm ⟨v, H, I, r, h⟩ hd
/-! ### arithmetic -/
variable {a b : Expr} {ta tb : TE} {pos : Pos}
/-! ### comparisons -/
def PC (X : Cx) (op : CmpOp) (a b : Expr) (t : TE) : Prop :=
  ∀ (pins : List (Addr × Obj)) (s : Shared) (σ : St) (H : Hp) (Q : VK), Inv X pins σ H s → t σ H Q →
    wpAny (model X.prog X.w) X.A (eval a X.env) (fun v s₁ => wpAny (model X.prog X.w) X.A (eval b X.env) (fun u s₂ => wpAny (model X.prog X.w) X.A (compareOp op v u) (EP X pins σ Q) X.xe s₂) X.xe s₁) X.xe s
/-- a comparison as a value, as a test -/
def tB (t : TE) : TT := fun σ H Q => t σ H fun x H1 => ∃ c, x = .bl c ∧ Q c H1
theorem pt_cmp {op : CmpOp} {t : TE} (h : PC X op a b t) (h1 : behindInMarks op b = false := by first | exact nobehind _ (by decide) (by decide) | rfl) : PT X (.Compare a [op] [b] pos) (tB t) := by
  intro pins s σ H Q I hw
  refine wpAny_isTrue_Compare1 (thn (h pins s σ H _ I hw) fun v s1 h1 => thn h1 fun u s2 h2 => thn h2 fun c s3 ⟨x, H1, I1, r1, q1⟩ => ?_) h1
  obtain ⟨d, rfl, q⟩ := q1
  cases r1
  exact wpAny_truthy_bool ⟨H1, I1, q⟩
/-- an expression whose value is a bool, as a test -/
theorem pt_val {e : Expr} {t : TE} (h : PE X e t) (he : ∀ whole, isTrue e X.env whole = (do let v ← whole; standAt e.pos; holding [v] (truthy v)) := by intro _; rfl) : PT X e (tB t) := by
  intro pins s σ H Q I hw
  refine isTrue_plain (thn (h pins s σ H _ I hw) fun v s1 ⟨x, H1, I1, r1, q1⟩ => ?_) (he _)
  obtain ⟨d, rfl, q⟩ := q1
  cases r1
  exact wpAny_truthy_bool ⟨H1, I1, q⟩

/-! ### and, or, not -/
variable {tA tB' : TT} {rest : List Expr}
def tAnd (t u : TT) : TT := fun σ H Q => t σ H fun c H1 => if c = true then u σ H1 Q else Q false H1
def tOr (t u : TT) : TT := fun σ H Q => t σ H fun c H1 => if c = true then Q true H1 else u σ H1 Q
def tNot (t : TT) : TT := fun σ H Q => t σ H fun c H1 => Q (!c) H1
theorem pw_and1 (ha : PT X a tA) : PW X (.BoolOp .And [a] pos) tA := by
  intro wh pins s σ H Q I h
  refine isTrue_and (thn (ha pins s σ H Q I h) fun c s1 e => ?_)
  cases c with
  | true => exact isTrue_and_nil e
  | false => exact e
theorem pw_or1 (ha : PT X a tA) : PW X (.BoolOp .Or [a] pos) tA := by
  intro wh pins s σ H Q I h
  refine isTrue_or (thn (ha pins s σ H Q I h) fun c s1 e => ?_)
  cases c with
  | false => exact isTrue_or_nil e
  | true => exact e
theorem pw_and (ha : PT X a tA) (hb : PW X (.BoolOp .And (b :: rest) pos) tB') : PW X (.BoolOp .And (a :: b :: rest) pos) (tAnd tA tB') := by
  intro wh pins s σ H Q I h
  refine isTrue_and (thn (ha pins s σ H _ I h) fun c s1 ⟨H1, I1, q1⟩ => ?_)
  cases c with
  | true => exact hb wh pins s1 σ H1 Q I1 q1
  | false => exact ⟨H1, I1, q1⟩
theorem pw_or (ha : PT X a tA) (hb : PW X (.BoolOp .Or (b :: rest) pos) tB') : PW X (.BoolOp .Or (a :: b :: rest) pos) (tOr tA tB') := by
  intro wh pins s σ H Q I h
  refine isTrue_or (thn (ha pins s σ H _ I h) fun c s1 ⟨H1, I1, q1⟩ => ?_)
  cases c with
  | true => exact ⟨H1, I1, q1⟩
  | false => exact hb wh pins s1 σ H1 Q I1 q1
theorem pt_not (ha : PT X a tA) : PT X (.UnaryOp .Not a pos) (tNot tA) := by
  intro pins s σ H Q I h
  exact isTrue_not (ha pins s σ H (fun c H1 => Q (!c) H1) I h)
/-- .. as values (bools) -/
def tAndV (ta tb : TE) : TE := fun σ H Q => ta σ H fun x H1 => ∃ c, x = .bl c ∧ if c = true then tb σ H1 Q else Q (.bl false) H1
theorem pe_one {op} {t : TE} (h : PE X a t) : PE X (.BoolOp op [a] pos) t := fun pins s σ H Q I hw => BoolOp_one (h pins s σ H Q I hw)
theorem pe_and (ha : PE X a ta) (hb : PE X (.BoolOp .And (b :: rest) pos) tb) : PE X (.BoolOp .And (a :: b :: rest) pos) (tAndV ta tb) := by
  intro pins s σ H Q I h
  refine BoolOp_and (thn (ha pins s σ H _ I h) fun v s1 ⟨x, H1, I1, r1, q1⟩ => ?_)
  obtain ⟨c, rfl, q1⟩ := q1
  cases r1
  refine wpAny_truthy_bool ?_
  cases c with
  | true => exact hb pins s1 σ H1 Q I1 q1
  | false => exact ⟨.bl false, H1, I1, rfl, q1⟩
/-- a if t else b -/
def tIf (t : TT) (ta tb : TE) : TE := fun σ H Q => t σ H fun c H1 => if c = true then ta σ H1 Q else tb σ H1 Q
theorem pe_ifExp {c : Expr} (hc : PT X c tA) (ha : PE X a ta) (hb : PE X b tb) : PE X (.IfExp c a b pos) (tIf tA ta tb) := by
  intro pins s σ H Q I h
  refine wpAny_IfExp (thn (hc pins s σ H _ I h) fun d s1 ⟨H1, I1, q1⟩ => ?_)
  cases d with
  | true => exact ha pins s1 σ H1 Q I1 q1
  | false => exact hb pins s1 σ H1 Q I1 q1
end
end L2

namespace L2
open PySem PySem.Spec PyProof.Rows

/-! ### a list, a tuple that is read: tracked, frozen, or an object of the module -/
def SqL (K : PySem.W.Frag) (H : Hp) (a : Addr) (xs : List V) : Prop :=
  Rd H a (.lst xs) ∨
    ∃ (o : Obj) (its : Array Value) (n : Nat), K.lookup a = some o ∧ o.cls = .type "list" ∧ o.dict = none ∧ o.data = .seq its n ∧ its.size ≤ sizeLine ∧ Vals xs its.toList
def SqT (K : PySem.W.Frag) (H : Hp) (a : Addr) (xs : List V) : Prop :=
  Rd H a (.tup xs) ∨
    ∃ (o : Obj) (its : Array Value) (n : Nat), K.lookup a = some o ∧ o.cls = .type "tuple" ∧ o.data = .seq its n ∧ its.size ≤ sizeLine ∧ Vals xs its.toList
def absV : Value → Option V
  | .none => some .non
  | .bool b => some (.bl b)
  | .int i _ => some (.int i)
  | .str x _ => some (.str x)
  | .bytes b _ => some (.byt b)
  | .float b _ => some (.flt b)
  | .ref a => some (.ref a)
  | .type n => some (.ty n)
  | _ => none
theorem RelV.abs {x : V} {u : Value} (r : RelV x u) : absV u = some x := by
  cases x with
  | non => cases r; rfl
  | bl _ => cases r; rfl
  | int _ => obtain ⟨t, rfl⟩ := r; rfl
  | str _ => obtain ⟨t, rfl⟩ := r; rfl
  | byt _ => obtain ⟨t, rfl⟩ := r; rfl
  | flt _ => obtain ⟨t, rfl⟩ := r; rfl
  | ref _ => cases r; rfl
  | ty _ => cases r; rfl
theorem RelV.inj {x y : V} {u : Value} (r : RelV x u) (q : RelV y u) : x = y := Option.some.inj (r.abs.symm.trans q.abs)
theorem Vals.inj : ∀ {xs ys : List V} {us : List Value}, Vals xs us → Vals ys us → xs = ys
  | _, _, _, .nil, .nil => rfl
  | _, _, _, .cons r t, .cons r' t' => by rw [r.inj r', Vals.inj t t']
section
variable {X : Cx} {pins : List (Addr × Obj)} {σ : St} {H : Hp} {s : Shared} {a : Addr} {xs ys : List V}
theorem SqL.of {K : PySem.W.Frag} (h : H a = some (.lst xs)) : SqL K H a xs := .inl (.inl h)
theorem SqT.of {K : PySem.W.Frag} (h : H a = some (.tup xs)) : SqT K H a xs := .inl (.inl h)
theorem Inv.list (I : Inv X pins σ H s) (h : SqL X.K H a xs) : ∃ its : List Value, Vals xs its ∧ PlainL s.heap a its.toArray ∧ xs.length ≤ sizeLine := by
  rcases h with h | ⟨o, its, n, hk, hc, hd, hs, hz, r⟩
  · obtain ⟨z, its, n, r, e⟩ := h.ok I.hok
    exact ⟨its, r, ⟨_, n, e, rfl, rfl, rfl⟩, z⟩
  · refine ⟨its.toList, r, ⟨o, n, I.kIn a o hk, hc, hd, by simpa using hs⟩, ?_⟩
    have e := r.length
    simp only [Array.length_toList] at e
    omega
theorem Inv.tuple (I : Inv X pins σ H s) (h : SqT X.K H a xs) : ∃ its : List Value, Vals xs its ∧ IsTup s.heap a its.toArray ∧ xs.length ≤ sizeLine := by
  rcases h with h | ⟨o, its, n, hk, hc, hs, hz, r⟩
  · obtain ⟨z, its, r, p⟩ := h.ok I.hok
    exact ⟨its, r, p, z⟩
  · refine ⟨its.toList, r, ⟨o, I.kIn a o hk, hc, n, by simpa using hs⟩, ?_⟩
    have e := r.length
    simp only [Array.length_toList] at e
    omega
theorem Inv.list_inj (I : Inv X pins σ H s) (h : SqL X.K H a xs) (h' : SqL X.K H a ys) : xs = ys := by
  obtain ⟨its, r, ⟨o, n, e, _, _, d⟩, _⟩ := I.list h
  obtain ⟨its', r', ⟨o', n', e', _, _, d'⟩, _⟩ := I.list h'
  rw [e] at e'; cases e'
  rw [d] at d'
  injection d' with d1 _
  have : its = its' := by simpa using congrArg Array.toList d1
  subst this
  exact r.inj r'
end

/-! ### another wish about exceptions -/
abbrev Cx.wish (X : Cx) (E : Value → Shared → Prop) : Cx := { X with xe := E }
/-- no exception leaves -/
abbrev Cx.nox (X : Cx) : Cx := X.wish fun _ _ => False
theorem Cx.Ok.wish {X : Cx} (ok : X.Ok) (E : Value → Shared → Prop) : (X.wish E).Ok :=
  ⟨ok.mod, ok.kind, ok.glob, ok.blt, ok.above, ok.inj, ok.has, ok.cab, ok.hd, ok.frames, ok.stk, ok.exf, ok.bs, ok.bsz, ok.noex, ok.exfs, ok.funs, ok.frf⟩
theorem Cx.Ok.unwish {X : Cx} {E : Value → Shared → Prop} (ok : (X.wish E).Ok) : X.Ok :=
  ⟨ok.mod, ok.kind, ok.glob, ok.blt, ok.above, ok.inj, ok.has, ok.cab, ok.hd, ok.frames, ok.stk, ok.exf, ok.bs, ok.bsz, ok.noex, ok.exfs, ok.funs, ok.frf⟩
section
variable {X : Cx} {pins : List (Addr × Obj)} {σ : St} {H : Hp} {s : Shared} {E : Value → Shared → Prop}
theorem Inv.wish (I : Inv X pins σ H s) (E : Value → Shared → Prop) : Inv (X.wish E) pins σ H s := ⟨I.ok.wish E, I.os, I.bare, I.base, I.loc, I.cell, I.free, I.freeC, I.pin, I.hok, I.len⟩
theorem Inv.unwish (I : Inv (X.wish E) pins σ H s) : Inv X pins σ H s := ⟨I.ok.unwish, I.os, I.bare, I.base, I.loc, I.cell, I.free, I.freeC, I.pin, I.hok, I.len⟩
theorem SP.unwish {D : Ends} {f : Flow} {s' : Shared} (h : SP (X.wish E) pins D f s') : SP X pins D f s' := by
  cases f with
  | next => obtain ⟨σ', H', I, q⟩ := h; exact ⟨σ', H', I.unwish, q⟩
  | brk => obtain ⟨σ', H', I, q⟩ := h; exact ⟨σ', H', I.unwish, q⟩
  | cont => obtain ⟨σ', H', I, q⟩ := h; exact ⟨σ', H', I.unwish, q⟩
  | ret u => obtain ⟨v, σ', H', I, r, q⟩ := h; exact ⟨v, σ', H', I.unwish, r, q⟩
theorem PSs.nox {st : List Stmt} {t : TS} (h : PSs X.nox st t) : PSs X st t := fun pins s σ H D I hw =>
  wpAny_mono (h pins s σ H D (I.wish _) hw) (fun _ _ q => q.unwish) fun _ _ z => False.elim z
end

/-! ### blocks and small statements -/
section
variable {X : Cx} {st : Stmt} {rest : List Stmt} {t u : TS} {e : Expr} {te : TE} {pos : Pos}
def tNext : TS := fun D σ H => D.nx σ H
def tSeq (t u : TS) : TS := fun D σ H => t { D with nx := u D } σ H
theorem pss_nil : PSs X [] tNext := fun _ _ σ H _ I h => wpAny_execs_nil ⟨σ, H, I, h⟩
theorem pss_cons (h1 : PS X st t) (h2 : PSs X rest u) : PSs X (st :: rest) (tSeq t u) := by
  intro pins s σ H D I h
  refine wpAny_execs_cons (thn (h1 pins s σ H { D with nx := u D } I h) fun f s1 q => ?_)
  cases f with
  | next =>
    obtain ⟨σ', H', I', q⟩ := q
    exact h2 pins s1 σ' H' D I' q
  | ret v => exact q
  | brk => exact q
  | cont => exact q
theorem pss_one (h1 : PS X st t) : PSs X [st] t := by
  intro pins s σ H D I h
  refine wpAny_execs_cons (thn (h1 pins s σ H D I h) fun f s1 q => ?_)
  cases f with
  | next => exact wpAny_execs_nil q
  | ret v => exact q
  | brk => exact q
  | cont => exact q
/-- in a def's body nothing is shown -/
theorem Inv.quiet {pins : List (Addr × Obj)} {σ : St} {H : Hp} {s : Shared} (I : Inv X pins σ H s) : interactive X.env = false := by simp [interactive, I.ok.kind]
/-- an expression whose value is dropped -/
def tDrop (te : TE) : TS := fun D σ H => te σ H fun _ H1 => D.nx σ H1
theorem ps_expr (he : PE X e te) (hs : swapsWith e none pos.line X.env = pure false := by rfl) : PS X (.Expr e pos) (tDrop te) := by
  intro pins s σ H D I h
  exact wpAny_Expr_any (thn (he pins s σ H _ I h) fun v s1 ⟨x, H1, I1, r1, q1⟩ => ⟨σ, H1, I1, q1⟩) I.quiet hs
def tRet (te : TE) : TS := fun D σ H => te σ H D.rt
theorem ps_ret (he : PE X e te) : PS X (.Return (some e) pos) (tRet te) := by
  intro pins s σ H D I h
  exact wpAny_Return_some (thn (he pins s σ H _ I h) fun v s1 ⟨x, H1, I1, r1, q1⟩ => ⟨x, σ, H1, I1, r1, q1⟩)
def tIfS (c : TT) (t u : TS) : TS := fun D σ H => c σ H fun b H1 => if b = true then t D σ H1 else u D σ H1
theorem ps_if {c : Expr} {a b : List Stmt} {tc : TT} (hc : PT X c tc) (ha : PSs X a t) (hb : PSs X b u) : PS X (.If c a b pos) (tIfS tc t u) := by
  intro pins s σ H D I h
  refine wpAny_If (thn (hc pins s σ H _ I h) fun d s1 ⟨H1, I1, q1⟩ => ?_)
  cases d with
  | true => exact ha pins s1 σ H1 D I1 q1
  | false => exact hb pins s1 σ H1 D I1 q1
end

/-! ### targets -/
abbrev TG := V → St → Hp → (St → Hp → Prop) → Prop
def PG (X : Cx) (target : Expr) (t : TG) : Prop :=
  ∀ (pins : List (Addr × Obj)) (s : Shared) (σ : St) (H : Hp) (v : V) (u : Value) (Q : St → Hp → Prop), Inv X pins σ H s → RelV v u → t v σ H Q →
    wpAny (model X.prog X.w) X.A (assign target X.env u) (fun _ s' => ∃ σ' H', Inv X pins σ' H' s' ∧ Q σ' H') X.xe s
section
variable {X : Cx} {pos : Pos}
def gName (i : Nat) : TG := fun v σ H Q => Q (σ.set i (some v)) H
theorem pg_name {i : Nat} {x : Str} (hN : X.N.Nodup) (hi : X.N[i]? = some x) (hx : Loc X.env.scope x) (hf : X.fn x = true ∨ X.env.scope.names.lookup x = some .local := by first | exact .inl rfl | exact .inr rfl | assumption) : PG X (.Name x pos) (gName i) := by
  intro pins s σ H v u Q I r h
  exact wpAny_assign_Name (store_ok I hN hi hx r (fun s' I' => ⟨_, H, I', h⟩) hf)
/-- target = value -/
def tAsg (te : TE) (g : TG) : TS := fun D σ H => te σ H fun x H1 => g x σ H1 D.nx
/-- name = value -/
theorem ps_set {i : Nat} {x : Str} {e : Expr} {te : TE} {pos' : Pos} (hN : X.N.Nodup) (hi : X.N[i]? = some x) (hx : Loc X.env.scope x) (he : PE X e te) (hs : swapsWith e (some (.Name x pos')) pos.line X.env = pure false := by rfl) (hf : X.fn x = true ∨ X.env.scope.names.lookup x = some .local := by first | exact .inl rfl | exact .inr rfl | assumption) :
    PS X (.Assign [.Name x pos'] e pos) (tAsg te (gName i)) := by
  intro pins s σ H D I h
  refine wpAny_Assign_Name (thn (he pins s σ H _ I h) fun v s1 ⟨y, H1, I1, r1, q1⟩ => ?_) hs
  exact store_ok I1 hN hi hx r1 (fun s2 I2 => ⟨_, H1, I2, q1⟩) hf
end

/-! ### while -/
section
variable {X : Cx} {pos : Pos}
/-- the invariant W with its measure -/
def tWhile (c : TT) (tb : TS) : TS := fun D σ H => ∃ W : Nat → St → Hp → Prop, (∃ m, W m σ H) ∧ ∀ m σ H, W m σ H →
  c σ H fun b H1 => if b = true then ∃ N : St → Hp → Prop, (∀ σ' H', N σ' H' → ∃ m', m' < m ∧ W m' σ' H') ∧ tb { D with nx := N, ct := N, bk := D.nx } σ H1 else D.nx σ H1
theorem ps_while {c : Expr} {body : List Stmt} {tc : TT} {tb : TS} (hp : PassesOwn (model X.prog X.w) X.A X.env X.xe) (hc : PT X c tc) (hb : PSs X body tb) : PS X (.While c body [] pos) (tWhile tc tb) := by
  intro pins s σ H D I h
  obtain ⟨W, ⟨m0, w0⟩, turn⟩ := h
  refine wpAny_While (codeAny_whileLoop (fun n s' => ∃ σ' H', Inv X pins σ' H' s' ∧ W n σ' H') ?_ m0 ⟨σ, H, I, w0⟩)
  rintro n s1 ⟨σ1, H1, I1, w1⟩
  refine wpAny_passesOwn hp (thn (hc pins s1 σ1 H1 _ I1 (turn n σ1 H1 w1)) fun b s2 ⟨H2, I2, q2⟩ => ?_)
  cases b with
  | true =>
    obtain ⟨N, hN, q2⟩ := q2
    rw [if_pos rfl]
    refine wpAny_passesOwn hp (thn (hb pins s2 σ1 H2 _ I2 q2) fun f s3 q3 => ?_)
    cases f with
    | next =>
      obtain ⟨σ3, H3, I3, n3⟩ := q3
      obtain ⟨m', hm, w3⟩ := hN σ3 H3 n3
      exact ⟨m', hm, σ3, H3, I3, w3⟩
    | cont =>
      obtain ⟨σ3, H3, I3, n3⟩ := q3
      obtain ⟨m', hm, w3⟩ := hN σ3 H3 n3
      exact ⟨m', hm, σ3, H3, I3, w3⟩
    | brk => exact q3
    | ret v => exact q3
  | false =>
    rw [if_neg Bool.false_ne_true]
    exact wpAny_execs_nil ⟨σ1, H2, I2, q2⟩
end

/-! ### what a loop or a comprehension walks -/
/-- at turn i: it yields x (the heap may grow), or it stops -/
structure It where
  go : Nat → Hp → Prop
  yld : Nat → Hp → V → Hp → Prop
  stop : Nat → Hp → Prop
/-- the iterator's own objects may turn: they are not the frame's, not pinned, younger than the entry (or a comprehension's own) -/
def FpOk (X : Cx) (pins : List (Addr × Obj)) (H : Hp) (b : Addr) : Prop :=
  H b = none ∧ b ≠ X.env.locals ∧ b ∉ X.fs ∧ (b ∈ X.ex ∨ X.s_0.heap.objs.size ≤ b) ∧ (∀ x c, X.env.cells.lookup x = some c → c ≠ b) ∧ ∀ p ∈ X.pn ++ pins, p.1 ≠ b
theorem Inv.fpOk {X : Cx} {pins : List (Addr × Obj)} {σ : St} {H H' : Hp} {s : Shared} {b : Addr} (I : Inv X pins σ H s) (hb : s.heap.objs.size ≤ b) (hn : H' b = none) : FpOk X pins H' b := by
  refine ⟨hn, Nat.ne_of_gt (Nat.lt_of_lt_of_le I.lt hb), I.nofs hb, .inr (Nat.le_trans I.sz hb), fun x c e z => ?_, fun p hp z => ?_⟩
  · obtain ⟨v, q⟩ := I.cell x c e
    exact absurd (Nat.lt_of_lt_of_le q.lt (by rw [z]; exact hb)) (Nat.lt_irrefl _)
  · exact absurd (Nat.lt_of_lt_of_le (Heap.lt_size (I.pin p hp).1) (by rw [z]; exact hb)) (Nat.lt_irrefl _)
structure Turn (P : Program) (w : World) (K : PySem.W.Frag) (tg : Expr) (J : It) (fp : List Addr) (it : Addr) (tn : Nat → Heap → Prop) : Prop where
  mem : it ∈ fp
  obj : ∀ i h, tn i h → ∀ b ∈ fp, ∃ o, h.get? b = some o ∧ ∀ v, o.data ≠ .cell v
  keep : ∀ i h h', tn i h → (∀ b ∈ fp, ∀ o, h.get? b = some o → h'.get? b = some o) → tn i h'
  item : ∀ (X : Cx), X.prog = P → X.w = w → X.K = K → X.calm = true → ∀ (i : Nat) (pins : List (Addr × Obj)) (s : Shared) (σ : St) (H : Hp) (E : Value → Shared → Prop), Inv X pins σ H s → (∀ b ∈ fp, FpOk X pins H b) → tn i s.heap → J.go i H →
    wpAny (model P w) X.A (pyNext (.ref it)) (fun r s1 => ∃ u, r = some u ∧
      wpAny (model P w) X.A (letOwnedTupleGo tg (.ref it) u) (fun _ s2 => ∃ x H', Inv X pins σ H' s2 ∧ RelV x u ∧ J.yld i H x H' ∧ tn (i + 1) s2.heap ∧ ∀ b ∈ fp, H' b = none) E s1) E s
  done : ∀ (X : Cx), X.prog = P → X.w = w → X.K = K → X.calm = true → ∀ (i : Nat) (pins : List (Addr × Obj)) (s : Shared) (σ : St) (H : Hp) (E : Value → Shared → Prop), Inv X pins σ H s → (∀ b ∈ fp, FpOk X pins H b) → tn i s.heap → J.stop i H →
    wpAny (model P w) X.A (pyNext (.ref it)) (fun r s1 => r = none ∧ Inv X pins σ H s1) E s
  self : ∀ (A : Around) (i : Nat) (s : Shared) (Q : Value → Shared → Prop) (E : Value → Shared → Prop), tn i s.heap → Q (.ref it) s → wpAny (model P w) A (pyIter (.ref it)) Q E s
abbrev TI := St → Hp → (It → Hp → Prop) → Prop
/-- an iterator has come -/
def PIE (X : Cx) (pins : List (Addr × Obj)) (σ : St) (tg : Expr) (R : It → Hp → Prop) (itv : Value) (s2 : Shared) : Prop :=
  ∃ (it : Addr) (fp : List Addr) (tn : Nat → Heap → Prop) (J : It) (H' : Hp), itv = .ref it ∧ Inv X pins σ H' s2 ∧ Turn X.prog X.w X.K tg J fp it tn ∧ tn 0 s2.heap ∧ (∀ b ∈ fp, FpOk X pins H' b) ∧ R J H'
def PI (X : Cx) (tg iter : Expr) (wi : TI) : Prop :=
  ∀ (pins : List (Addr × Obj)) (s : Shared) (σ : St) (H : Hp) (R : It → Hp → Prop), Inv X pins σ H s → wi σ H R →
    wpAny (model X.prog X.w) X.A (eval iter X.env) (fun v s1 => wpAny (model X.prog X.w) X.A (pyIter v) (PIE X pins σ tg R) X.xe s1) X.xe s

/-- the step ahead of the store is nothing for an iterator that keeps no tuple -/
theorem go_of {M : Model} {A : Around} {E : Value → Shared → Prop} {s : Shared} {tg : Expr} {it : Addr} {u : Value} {o : Obj} {n : String} {vs : Array Value} {Q : Unit → Shared → Prop} (ho : s.heap.get? it = some o) (hc : o.cls = .type n) (hd : o.data = .fields vs)
    (hn : ["enumerate", "zip", "dict_itemiterator", "dict_reverseitemiterator", "odict_iterator", "itertools.zip_longest", "itertools.pairwise"].contains n = false) (hQ : Q () s) : wpAny M A (letOwnedTupleGo tg (.ref it) u) Q E s := by
  unfold letOwnedTupleGo
  cases tg <;> first
    | exact wpAny_pure hQ
    | (cases u <;> first
        | exact wpAny_pure hQ
        | (refine wpAny_bind (wpAny_load ho ?_)
           rw [hc, hd]
           show wpAny M A (if (["enumerate", "zip", "dict_itemiterator", "dict_reverseitemiterator", "odict_iterator", "itertools.zip_longest", "itertools.pairwise"].contains n && vs[0]? == some (rawInt _)) = true then _ else _) Q E s
           rw [if_neg (by intro h; rw [hn, Bool.false_and] at h; cases h)]
           exact wpAny_pure hQ))

/-- the list at a, as it stands at each turn (a loop may append to it) -/
def Itl (K : PySem.W.Frag) (a : Addr) : It :=
  ⟨fun i H => ∃ xs x, SqL K H a xs ∧ xs[i]? = some x, fun i H x H' => H' = H ∧ ∀ xs, SqL K H a xs → xs[i]? = some x, fun i H => ∃ xs, SqL K H a xs ∧ xs.length ≤ i⟩
/-- lo, lo + 1, .. (n of them) -/
def Itr (lo : Int) (n : Nat) : It := ⟨fun i _ => i < n, fun i H x H' => H' = H ∧ x = .int (lo + i), fun i _ => n ≤ i⟩
theorem turn_list {P : Program} {w : World} {K : PySem.W.Frag} {tg : Expr} (a it : Addr) : Turn P w K tg (Itl K a) [it] it (fun i h => h.IsListIter it a i) where
  mem := by simp
  obj := fun i h st b hb => by
    have e : b = it := by simpa using hb
    subst e
    obtain ⟨o, e, c, d⟩ := st
    exact ⟨o, e, fun v z => by rw [d] at z; cases z⟩
  keep := fun i h h' st k => st.at fun o e => k it (by simp) o e
  item := by
    intro X hP hw hK hc i pins s σ H E I hf st hg
    subst hP hw hK
    obtain ⟨xs, x, hq, hx⟩ := hg
    obtain ⟨its, rv, p, hz⟩ := I.list hq
    obtain ⟨u, hu, ru⟩ := rv.get hx
    obtain ⟨f0, f1, f2, f3, f4, f5⟩ := hf it (by simp)
    refine wpAny_pyNext_list_item st p.isList (x := u) (by simpa using hu) fun h' st' sb => ?_
    have I1 : Inv X pins σ H { s with heap := h' } := I.turned (t' := s.toks) (fun b o hb e => (sb.2 b hb).trans e) f0 f1 f3 f4 f5
    obtain ⟨o, e, c, d⟩ := id st'
    exact ⟨u, rfl, go_of (s := { s with heap := h' }) e c d (by decide) ⟨x, H, I1, ru, ⟨rfl, fun ys hy => by rw [I.list_inj hy hq]; exact hx⟩, st', fun b hb => (hf b hb).1⟩⟩
  done := by
    intro X hP hw hK hc i pins s σ H E I hf st hg
    subst hP hw hK
    obtain ⟨xs, hq, hx⟩ := hg
    obtain ⟨its, rv, p, hz⟩ := I.list hq
    obtain ⟨f0, f1, f2, f3, f4, f5⟩ := hf it (by simp)
    have hl := rv.length
    exact wpAny_pyNext_list_end (I.ok.hd hc) st p.isList (by simp; omega) fun h' eb => ⟨rfl, I.turned (t' := s.toks) (fun b o hb e => eb b o hb e) f0 f1 f3 f4 f5⟩
  self := fun _ _ _ _ _ st h => wpAny_pyIter_listiter st h
theorem turn_range {P : Program} {w : World} {K : PySem.W.Frag} {tg : Expr} (it : Addr) (lo : Int) (n : Nat) : Turn P w K tg (Itr lo n) [it] it (fun i h => IsRangeIter h it (lo + (i : Nat) * 1) ((n : Int) - (i : Nat)) 1) where
  mem := by simp
  obj := fun i h st b hb => by
    have e : b = it := by simpa using hb
    subst e
    exact ⟨_, st, fun v z => by
      have z' : Data.fields _ = Data.cell v := z
      cases z'⟩
  keep := fun i h h' st k => k it (by simp) _ st
  item := by
    intro X hP hw hK hc i pins s σ H E I hf st hg
    subst hP hw hK
    obtain ⟨f0, f1, f2, f3, f4, f5⟩ := hf it (by simp)
    have W := Walks.range (prog := X.prog) (w := X.w) (I.ok.hd hc) it lo 1 n
    refine W.item i s _ _ hg st fun v h' tk hv st' kk => ?_
    obtain ⟨t, rfl⟩ := hv
    have I1 : Inv X pins σ H { s with heap := h', toks := tk } := I.turned (fun b o hb e => kk b o (by simpa using hb) e) f0 f1 f3 f4 f5
    refine ⟨_, rfl, go_of (s := { s with heap := h', toks := tk }) (n := "range_iterator") st' rfl rfl (by decide) ⟨.int (lo + i), H, I1, ⟨t, ?_⟩, ⟨rfl, rfl⟩, st', fun b hb => (hf b hb).1⟩⟩
    rw [Int.mul_one]
  done := by
    intro X hP hw hK hc i pins s σ H E I hf st hg
    subst hP hw hK
    obtain ⟨f0, f1, f2, f3, f4, f5⟩ := hf it (by simp)
    exact wpAny_pyNext_range_end (I.ok.hd hc) st (by have : n ≤ i := hg; omega) fun h' eb => ⟨rfl, I.turned (t' := s.toks) (fun b o hb e => eb b o hb e) f0 f1 f3 f4 f5⟩
  self := fun _ _ _ _ _ st h => wpAny_pyIter_rangeiter st h
end L2

namespace L2
open PySem PySem.Spec PyProof.Rows
section
variable {X : Cx} {tg : Expr}
def iList (K : PySem.W.Frag) (tl : TE) : TI := fun σ H R => tl σ H fun x H1 => ∃ a, x = .ref a ∧ (∃ xs, SqL K H1 a xs) ∧ R (Itl K a) H1
theorem pi_list {l : Expr} {tl : TE} (hl : PE X l tl) : PI X tg l (iList X.K tl) := by
  intro pins s σ H R I h
  refine thn (hl pins s σ H _ I h) fun v s1 ⟨x, H1, I1, r1, q1⟩ => ?_
  obtain ⟨a, e, ⟨xs, hq⟩, q⟩ := q1
  subst e
  cases r1
  obtain ⟨its, rv, p, hz⟩ := I1.list hq
  refine wpAny_pyIter_list p.isList ?_
  refine ⟨s1.heap.objs.size, [s1.heap.objs.size], _, _, H1, rfl, I1.kept (t' := s1.toks) fun b o e => Heap.get?_push_of_some _ e, turn_list a _, ⟨_, Heap.get?_push_size _ rfl, rfl, rfl⟩, fun b hb => ?_, q⟩
  have e : b = s1.heap.objs.size := by simpa using hb
  subst e
  exact I1.fpOk (Nat.le_refl _) (I1.hok.fresh (Nat.le_refl _))
/-- a range object just made, walked -/
theorem range_it {pins : List (Addr × Obj)} {σ : St} {H : Hp} {s : Shared} {R : It → Hp → Prop} {E : Value → Shared → Prop} {lo hi : Int} {t u v : Tok} {tk : Nat} (I : Inv X pins σ H s) (h1 : -(2 ^ 62) ≤ lo) (h2 : lo < 2 ^ 62) (h3 : -(2 ^ 62) ≤ hi) (h4 : hi < 2 ^ 62)
    (q : R (Itr lo (hi - lo).toNat) H) : wpAny (model X.prog X.w) X.A (pyIter (.ref s.heap.objs.size)) (PIE X pins σ tg R) E { s with heap := s.heap.push { cls := .type "range", data := .fields #[.int lo t, .int hi u, .int 1 v] }, toks := tk } := by
  refine wpAny_pyIter_range (IsRange.new ..) (small_one h1 h2 h3 h4) ?_
  have I1 : Inv X pins σ H { s with heap := s.heap.push { cls := .type "range", data := .fields #[.int lo t, .int hi u, .int 1 v] }, toks := tk } := I.kept fun b o e => Heap.get?_push_of_some _ e
  refine ⟨(s.heap.push { cls := .type "range", data := .fields #[.int lo t, .int hi u, .int 1 v] }).objs.size, [(s.heap.push { cls := .type "range", data := .fields #[.int lo t, .int hi u, .int 1 v] }).objs.size], _, _, H, rfl,
    I1.kept (t' := tk) fun b o e => Heap.get?_push_of_some _ e, turn_range _ lo (hi - lo).toNat, ?_, fun b hb => ?_, q⟩
  · have e1 : lo + ((0 : Nat) : Int) * 1 = lo := by simp
    have e2 : (((hi - lo).toNat : Nat) : Int) - ((0 : Nat) : Int) = Builtin.Range.rangeSize lo hi 1 := by rw [rangeSize_one]; split <;> omega
    show IsRangeIter _ _ (lo + ((0 : Nat) : Int) * 1) ((((hi - lo).toNat : Nat) : Int) - ((0 : Nat) : Int)) 1
    rw [e1, e2]
    exact Heap.get?_push_size _ rfl
  · have e : b = (s.heap.push { cls := .type "range", data := .fields #[.int lo t, .int hi u, .int 1 v] }).objs.size := by simpa using hb
    subst e
    exact I1.fpOk (Nat.le_refl _) (I1.hok.fresh (Nat.le_refl _))
def iRng1 (ta : TA) : TI := fun σ H R => ta σ H fun vs H1 => ∃ j : Int, vs = [.int j] ∧ -(2 ^ 62) ≤ j ∧ j < 2 ^ 62 ∧ R (Itr 0 j.toNat) H1
theorem pi_range1 {a : Expr} {ta : TA} {p pos : Pos} (hg : Gl X "range") (hm : X.mg "range" = none) (ha : PA X [a] ta) (hs : starEach [a] X.env = [(false, eval a X.env)] := by rfl) : PI X tg (.Call (.Name "range" p) [a] [] pos) (iRng1 ta) := by
  intro pins s σ H R I h
  refine Call_ (ld_blt I hg hm boot_range (PyProof.Rows.callWith_type1 (thn (ha pos pins s σ H _ I h) fun us s1 ⟨vs, H1, I1, r1, q1⟩ => ?_) hs rfl))
  obtain ⟨j, e, q1, q2, q⟩ := q1
  subst e
  cases r1 with
  | cons r rr =>
    cases rr
    obtain ⟨t, rfl⟩ := r
    exact call_range_1 (range_it I1 (by omega) (by omega) q1 q2 (by simpa using q))
/-! ### for -/
/-- W: the invariant by the turn and a measure; N: what the body is to reach -/
def tFor (wi : TI) (g : TG) (tb : TS) : TS := fun D σ H => wi σ H fun J H1 => ∃ W : Nat → Nat → St → Hp → Prop, (∃ m, W 0 m σ H1) ∧ ∀ i m σ H, W i m σ H →
  (J.stop i H ∧ D.nx σ H) ∨ (J.go i H ∧ ∃ N : St → Hp → Prop, (∀ σ' H', N σ' H' → ∃ m', m' < m ∧ W (i + 1) m' σ' H') ∧ ∀ x H', J.yld i H x H' → g x σ H' fun σ2 H2 => tb { D with nx := N, ct := N, bk := D.nx } σ2 H2)
/-- the records at fp as they stand -/
def pinsAt (fp : List Addr) (h : Heap) : List (Addr × Obj) := fp.filterMap fun b => (h.get? b).map fun o => (b, o)
theorem mem_pinsAt {fp : List Addr} {h : Heap} {b : Addr} {o : Obj} (hb : b ∈ fp) (e : h.get? b = some o) : (b, o) ∈ pinsAt fp h := List.mem_filterMap.mpr ⟨b, hb, by rw [e]; rfl⟩
theorem of_pinsAt {fp : List Addr} {h : Heap} {p : Addr × Obj} (hp : p ∈ pinsAt fp h) : p.1 ∈ fp ∧ h.get? p.1 = some p.2 := by
  obtain ⟨b, hb, e⟩ := List.mem_filterMap.mp hp
  cases q : h.get? b with
  | none => rw [q] at e; cases e
  | some o =>
    rw [q] at e
    have e' : (b, o) = p := Option.some.inj e
    subst e'
    exact ⟨hb, q⟩
theorem Inv.pinned {pins : List (Addr × Obj)} {σ : St} {H : Hp} {s : Shared} {fp : List Addr} (I : Inv X pins σ H s) (hf : ∀ b ∈ fp, FpOk X pins H b) (ho : ∀ b ∈ fp, ∃ o, s.heap.get? b = some o ∧ ∀ v, o.data ≠ .cell v) : Inv X (pins ++ pinsAt fp s.heap) σ H s :=
  I.pins_of fun p hp => (List.mem_append.mp hp).elim (fun z => I.pin p (List.mem_append_right _ z)) fun z => by
    obtain ⟨hb, e⟩ := of_pinsAt z
    obtain ⟨f0, f1, f2, _⟩ := hf p.1 hb
    obtain ⟨o, e', d⟩ := ho p.1 hb
    rw [e] at e'; cases e'
    exact ⟨e, f0, f1, f2, d⟩
theorem Inv.unpinned {pins pl : List (Addr × Obj)} {σ : St} {H : Hp} {s : Shared} (I : Inv X (pins ++ pl) σ H s) : Inv X pins σ H s := I.pins_of fun p hp => I.pin p (List.mem_append_right _ (List.mem_append_left _ hp))
theorem ps_for {iter : Expr} {body : List Stmt} {wi : TI} {g : TG} {tb : TS} {pos : Pos} (hp : PassesOwn (model X.prog X.w) X.A X.env X.xe) (hc : X.calm = true) (hi : PI X tg iter wi) (hg : PG X tg g) (hb : PSs X body tb)
    (hs : ∀ x, foldedSetIterable iter X.env x = pure x := by intro _; rfl) : PS X (.For tg iter body [] pos) (tFor wi g tb) := by
  intro pins s σ H D I h
  refine wpAny_For (thn (hi pins s σ H _ I h) fun v s1 h1 => thn h1 fun itv s2 h2 => ?_) hs
  obtain ⟨it, fp, tn, J, H2, e, I2, T, st2, f2, W, ⟨m0, w0⟩, turn⟩ := h2
  subst e
  -- what stays true of the iterator's objects through the loop
  have stat : ∀ {H' : Hp}, (∀ b ∈ fp, H' b = none) → ∀ b ∈ fp, FpOk X pins H' b := fun hn b hb => ⟨hn b hb, (f2 b hb).2⟩
  refine codeAny_forLoop_any (fun n s' => ∃ i σ' H', Inv X pins σ' H' s' ∧ tn i s'.heap ∧ (∀ b ∈ fp, H' b = none) ∧ W i n σ' H') ?_ m0 ⟨0, σ, H2, I2, st2, fun b hb => (f2 b hb).1, w0⟩
  rintro n s3 ⟨i, σ3, H3, I3, st3, fr3, w3⟩
  rcases turn i n σ3 H3 w3 with ⟨stop, qn⟩ | ⟨go, N, hN, step⟩
  · refine wpAny_passesOwn hp (thn (T.done X rfl rfl rfl hc i pins s3 σ3 H3 X.xe I3 (stat fr3) st3 stop) fun r s4 ⟨hr, I4⟩ => ?_)
    subst hr
    exact wpAny_execs_nil ⟨σ3, H3, I4, qn⟩
  · refine wpAny_passesOwn hp (thn (T.item X rfl rfl rfl hc i pins s3 σ3 H3 X.xe I3 (stat fr3) st3 go) fun r s4 ⟨u, hr, h4⟩ => ?_)
    subst hr
    refine wpAny_passesOwn hp (thn h4 fun _ s5 ⟨x, H5, I5, r5, y5, st5, fr5⟩ => ?_)
    have I5' := I5.pinned (stat fr5) (T.obj _ _ st5)
    refine wpAny_passesOwn hp (thn (hg _ s5 σ3 H5 x u _ I5' r5 (step x H5 y5)) fun _ s6 ⟨σ6, H6, I6, q6⟩ => ?_)
    refine wpAny_passesOwn hp (thn (hb _ s6 σ6 H6 _ I6 q6) fun f s7 q7 => ?_)
    have again : ∀ {σ7 : St} {H7 : Hp}, Inv X (pins ++ pinsAt fp s5.heap) σ7 H7 s7 → N σ7 H7 → ∃ m, m < n ∧ ∃ i σ' H', Inv X pins σ' H' s7 ∧ tn i s7.heap ∧ (∀ b ∈ fp, H' b = none) ∧ W i m σ' H' := fun {σ7 H7} I7 n7 => by
      obtain ⟨m', hm, w7⟩ := hN σ7 H7 n7
      refine ⟨m', hm, i + 1, σ7, H7, I7.unpinned, T.keep _ _ _ st5 fun b hb o e => (I7.pin (b, o) (List.mem_append_right _ (List.mem_append_right _ (mem_pinsAt hb e)))).1, fun b hb => ?_, w7⟩
      obtain ⟨o, e, d⟩ := T.obj _ _ st5 b hb
      exact (I7.pin (b, o) (List.mem_append_right _ (List.mem_append_right _ (mem_pinsAt hb e)))).2.1
    cases f with
    | next => obtain ⟨σ7, H7, I7, n7⟩ := q7; exact again I7 n7
    | cont => obtain ⟨σ7, H7, I7, n7⟩ := q7; exact again I7 n7
    | brk => obtain ⟨σ7, H7, I7, q7⟩ := q7; exact ⟨σ7, H7, I7.unpinned, q7⟩
    | ret v => obtain ⟨x7, σ7, H7, I7, r7, q7⟩ := q7; exact ⟨x7, σ7, H7, I7.unpinned, r7, q7⟩
end

/-! ### the forms one uses -/
/-- over a list that the body leaves as it is -/
theorem for_list {K : PySem.W.Frag} {a : Addr} {xs : List V} {g : TG} {tb : TS} {D : Ends} {σ : St} {H : Hp} (Pv : Nat → St → Hp → Prop) (h0 : Pv 0 σ H) (hl : ∀ i σ H, i ≤ xs.length → Pv i σ H → SqL K H a xs)
    (hs : ∀ i x σ H, xs[i]? = some x → Pv i σ H → g x σ H fun σ2 H2 => tb { D with nx := Pv (i + 1), ct := Pv (i + 1), bk := D.nx } σ2 H2) (hd : ∀ σ H, Pv xs.length σ H → D.nx σ H) :
    ∃ W : Nat → Nat → St → Hp → Prop, (∃ m, W 0 m σ H) ∧ ∀ i m σ H, W i m σ H →
      ((Itl K a).stop i H ∧ D.nx σ H) ∨ ((Itl K a).go i H ∧ ∃ N : St → Hp → Prop, (∀ σ' H', N σ' H' → ∃ m', m' < m ∧ W (i + 1) m' σ' H') ∧ ∀ x H', (Itl K a).yld i H x H' → g x σ H' fun σ2 H2 => tb { D with nx := N, ct := N, bk := D.nx } σ2 H2) := by
  refine ⟨fun i m σ H => m = xs.length - i ∧ i ≤ xs.length ∧ Pv i σ H, ⟨xs.length, by simp, Nat.zero_le _, h0⟩, ?_⟩
  rintro i m σ H ⟨rfl, hi, p⟩
  have q := hl i σ H hi p
  by_cases hlt : i < xs.length
  · refine .inr ⟨⟨xs, xs[i], q, by simp [hlt]⟩, Pv (i + 1), fun σ' H' p' => ⟨xs.length - (i + 1), by omega, rfl, hlt, p'⟩, fun x H' y => ?_⟩
    obtain ⟨e, y⟩ := y
    subst e
    exact hs i x σ _ (y xs q) p
  · have e : i = xs.length := by omega
    subst e
    exact .inl ⟨⟨xs, q, Nat.le_refl _⟩, hd σ H p⟩
theorem for_range {lo : Int} {n : Nat} {g : TG} {tb : TS} {D : Ends} {σ : St} {H : Hp} (Pv : Nat → St → Hp → Prop) (h0 : Pv 0 σ H)
    (hs : ∀ i σ H, i < n → Pv i σ H → g (.int (lo + i)) σ H fun σ2 H2 => tb { D with nx := Pv (i + 1), ct := Pv (i + 1), bk := D.nx } σ2 H2) (hd : ∀ σ H, Pv n σ H → D.nx σ H) :
    ∃ W : Nat → Nat → St → Hp → Prop, (∃ m, W 0 m σ H) ∧ ∀ i m σ H, W i m σ H →
      ((Itr lo n).stop i H ∧ D.nx σ H) ∨ ((Itr lo n).go i H ∧ ∃ N : St → Hp → Prop, (∀ σ' H', N σ' H' → ∃ m', m' < m ∧ W (i + 1) m' σ' H') ∧ ∀ x H', (Itr lo n).yld i H x H' → g x σ H' fun σ2 H2 => tb { D with nx := N, ct := N, bk := D.nx } σ2 H2) := by
  refine ⟨fun i m σ H => m = n - i ∧ i ≤ n ∧ Pv i σ H, ⟨n, by simp, Nat.zero_le _, h0⟩, ?_⟩
  rintro i m σ H ⟨rfl, hi, p⟩
  by_cases hlt : i < n
  · refine .inr ⟨hlt, Pv (i + 1), fun σ' H' p' => ⟨n - (i + 1), by omega, rfl, hlt, p'⟩, fun x H' y => ?_⟩
    obtain ⟨e, y⟩ := y
    subst e y
    exact hs i σ _ hlt p
  · have e : i = n := by omega
    subst e
    exact .inl ⟨Nat.le_refl _, hd σ H p⟩
end L2

namespace L2
open PySem PySem.Spec PyProof.Rows

abbrev R2 := V → V → Hp → VK → Prop
/-- a two-place operation on values: f is binaryOp op, inplaceOp op or compareOp op -/
def OpR (X : Cx) (f : Value → Value → Sem Value) (r : R2) : Prop :=
  ∀ (pins : List (Addr × Obj)) (s : Shared) (σ : St) (H : Hp) (x y : V) (v u : Value) (Q : VK), Inv X pins σ H s → RelV x v → RelV y u → r x y H Q →
    wpAny (model X.prog X.w) X.A (f v u) (EP X pins σ Q) X.xe s
/-- a one-place operation -/
def UnR (X : Cx) (f : Value → Sem Value) (r : V → Hp → VK → Prop) : Prop :=
  ∀ (pins : List (Addr × Obj)) (s : Shared) (σ : St) (H : Hp) (x : V) (v : Value) (Q : VK), Inv X pins σ H s → RelV x v → r x H Q →
    wpAny (model X.prog X.w) X.A (f v) (EP X pins σ Q) X.xe s
/-- a call of a value that is known (a builtin, a type) with values -/
def CallR (X : Cx) (f : Value) (r : List V → Hp → VK → Prop) : Prop :=
  ∀ (pins : List (Addr × Obj)) (s : Shared) (σ : St) (H : Hp) (xs : List V) (us : List Value) (Q : VK), Inv X pins σ H s → Vals xs us → r xs H Q →
    wpAny (model X.prog X.w) X.A (call f us) (EP X pins σ Q) X.xe s
def tOp (r : R2) (ta tb : TE) : TE := fun σ H Q => ta σ H fun x H1 => tb σ H1 fun y H2 => r x y H2 Q
def tUn (r : V → Hp → VK → Prop) (ta : TE) : TE := fun σ H Q => ta σ H fun x H1 => r x H1 Q
def rI0 (g : Int → Int → V) : R2 := fun x y H Q => ∃ i j, x = .int i ∧ y = .int j ∧ Q (g i j) H
def rU (g : Int → V) : V → Hp → VK → Prop := fun x H Q => ∃ i, x = .int i ∧ Q (g i) H

section
variable {X : Cx} {a b c : Expr} {ta tb tc : TE} {pos : Pos}

theorem binT (ha : PE X a ta) (hb : PE X b tb) {pins : List (Addr × Obj)} {s : Shared} {σ : St} {H : Hp} {R : V → V → Hp → Prop} (I : Inv X pins σ H s)
    (h : ta σ H fun x H1 => tb σ H1 fun y H2 => R x y H2) {Q : Value → Shared → Prop} {f : Value → Value → Sem Value}
    (hf : ∀ v u s2 x y H2, Inv X pins σ H2 s2 → RelV x v → RelV y u → R x y H2 → wpAny (model X.prog X.w) X.A (f v u) Q X.xe s2) :
    wpAny (model X.prog X.w) X.A (eval a X.env) (fun v s₁ => wpAny (model X.prog X.w) X.A (eval b X.env) (fun u s₂ => wpAny (model X.prog X.w) X.A (f v u) Q X.xe s₂) X.xe s₁) X.xe s := by
  refine thn (ha pins s σ H _ I h) fun v s1 ⟨x, H1, I1, r1, q1⟩ => ?_
  refine thn (hb pins s1 σ H1 _ I1 q1) fun u s2 ⟨y, H2, I2, r2, q2⟩ => ?_
  exact hf v u s2 x y H2 I2 r1 r2 q2

theorem pe_op {op : Operator} {r : R2} (ho : OpR X (binaryOp op) r) (ha : PE X a ta) (hb : PE X b tb) : PE X (.BinOp a op b pos) (tOp r ta tb) := by
  intro pins s σ H Q I h
  exact wpAny_BinOp (binT ha hb I h fun v u s2 x y H2 I2 rx ry q => ho pins s2 σ H2 x y v u Q I2 rx ry q)
theorem pe_un {op : UnaryOp} {r : V → Hp → VK → Prop} (ho : UnR X (unaryOp op) r) (ha : PE X a ta) : PE X (.UnaryOp op a pos) (tUn r ta) := by
  intro pins s σ H Q I h
  exact UnaryOp_ (thn (ha pins s σ H _ I h) fun v s1 ⟨x, H1, I1, r1, q1⟩ => ho pins s1 σ H1 x v Q I1 r1 q1)
/-! ### ints -/
theorem opI0 {f : Value → Value → Sem Value} {g : Int → Int → Int}
    (rule : ∀ (i j : Int) (t u : Tok) (s : Shared) (Q : Value → Shared → Prop) (E : Value → Shared → Prop), Q (.int (g i j) s.toks) { s with toks := s.toks + 1 } → wpAny (model X.prog X.w) X.A (f (.int i t) (.int j u)) Q E s) :
    OpR X f (rI0 fun i j => .int (g i j)) := by
  intro pins s σ H x y v u Q I rx ry h
  obtain ⟨i, j, rfl, rfl, q⟩ := h
  obtain ⟨t, rfl⟩ := rx
  obtain ⟨t', rfl⟩ := ry
  exact rule i j t t' s _ _ ⟨.int (g i j), H, I.tok _, ⟨_, rfl⟩, q⟩
theorem opB0 {f : Value → Value → Sem Value} {g : Int → Int → Bool}
    (rule : ∀ (i j : Int) (t u : Tok) (s : Shared) (Q : Value → Shared → Prop) (E : Value → Shared → Prop), Q (.bool (g i j)) s → wpAny (model X.prog X.w) X.A (f (.int i t) (.int j u)) Q E s) :
    OpR X f (rI0 fun i j => .bl (g i j)) := by
  intro pins s σ H x y v u Q I rx ry h
  obtain ⟨i, j, rfl, rfl, q⟩ := h
  obtain ⟨t, rfl⟩ := rx
  obtain ⟨t', rfl⟩ := ry
  exact rule i j t t' s _ _ ⟨.bl (g i j), H, I, rfl, q⟩

theorem op_add : OpR X (binaryOp .Add) (rI0 fun i j => .int (i + j)) := opI0 fun _ _ _ _ _ _ _ q => add_int q
theorem op_sub : OpR X (binaryOp .Sub) (rI0 fun i j => .int (i - j)) := opI0 fun _ _ _ _ _ _ _ q => sub_int q
theorem unI {f : Value → Sem Value} {g : Int → Int}
    (rule : ∀ (i : Int) (t : Tok) (s : Shared) (Q : Value → Shared → Prop) (E : Value → Shared → Prop), Q (.int (g i) s.toks) { s with toks := s.toks + 1 } → wpAny (model X.prog X.w) X.A (f (.int i t)) Q E s) :
    UnR X f (rU fun i => .int (g i)) := by
  intro pins s σ H x v Q I rx h
  obtain ⟨i, rfl, q⟩ := h
  obtain ⟨t, rfl⟩ := rx
  exact rule i t s _ _ ⟨.int (g i), H, I.tok _, ⟨_, rfl⟩, q⟩
theorem un_neg : UnR X (unaryOp .USub) (rU fun i => .int (-i)) := unI fun _ _ _ _ _ q => neg_int q
/-! ### bools among ints: n += (a < b) -/
end

/-! ### comparisons -/
/-- the scalars that == tells apart as data does -/
def scal : V → V → Bool
  | .non, .non => true | .non, .int _ => true | .int _, .non => true | .non, .bl _ => true | .bl _, .non => true | .non, .str _ => true | .str _, .non => true
  | .int _, .int _ => true | .bl _, .bl _ => true | .str _, .str _ => true | .byt _, .byt _ => true
  | .int _, .str _ => true | .str _, .int _ => true | .bl _, .str _ => true | .str _, .bl _ => true
  | _, _ => false
def rEq : R2 := fun x y H Q => scal x y = true ∧ Q (.bl (decide (x = y))) H
def rNe : R2 := fun x y H Q => scal x y = true ∧ Q (.bl (!decide (x = y))) H

theorem dec_int {i j : Int} : decide (V.int i = V.int j) = (i == j) := by
  rw [Bool.eq_iff_iff]
  simp
theorem dec_bl {i j : Bool} : decide (V.bl i = V.bl j) = (i == j) := by
  rw [Bool.eq_iff_iff]
  simp
theorem dec_str {i j : Str} : decide (V.str i = V.str j) = (i == j) := by
  rw [Bool.eq_iff_iff]
  simp
theorem dec_byt {i j : Array UInt8} : decide (V.byt i = V.byt j) = (i.toList == j.toList) := by
  rw [Bool.eq_iff_iff]
  cases i
  cases j
  simp

section
variable {X : Cx} {a b c : Expr} {ta tb tc : TE} {pos : Pos}
theorem fin_bl {pins : List (Addr × Obj)} {σ : St} {H : Hp} {s : Shared} {Q : VK} {k k' : Bool} (I : Inv X pins σ H s) (q : Q (.bl k) H) (e : k = k') : EP X pins σ Q (.bool k') s := by
  subst e
  exact ⟨.bl k, H, I, rfl, q⟩
theorem op_eq : OpR X (compareOp .Eq) rEq := by
  intro pins s σ H x y v u Q I rx ry h
  obtain ⟨hs, q⟩ := h
  cases x with
  | non =>
    cases rx
    cases y with
    | non => cases ry; exact PySem.EqNone.eq_none_none (fin_bl I q (by simp))
    | bl j => cases ry; exact PySem.EqNone.eq_none_bool (fin_bl I q (by simp))
    | int j => obtain ⟨t', rfl⟩ := ry; exact PySem.EqNone.eq_none_int (fin_bl I q (by simp))
    | str j => obtain ⟨t', rfl⟩ := ry; exact PySem.EqNone.eq_none_str (fin_bl I q (by simp))
    | _ => exact absurd (show false = true from hs) Bool.false_ne_true
  | bl i =>
    cases rx
    cases y with
    | non => cases ry; exact PySem.EqNone.eq_bool_none (fin_bl I q (by simp))
    | bl j => cases ry; exact eq_bool (fin_bl I q dec_bl)
    | str j => obtain ⟨t', rfl⟩ := ry; exact PySem.EqMixed.eq_bool_str (fin_bl I q (by simp))
    | _ => exact absurd (show false = true from hs) Bool.false_ne_true
  | int i =>
    obtain ⟨t, rfl⟩ := rx
    cases y with
    | non => cases ry; exact PySem.EqNone.eq_int_none (fin_bl I q (by simp))
    | int j => obtain ⟨t', rfl⟩ := ry; exact eq_int (fin_bl I q dec_int)
    | str j => obtain ⟨t', rfl⟩ := ry; exact PySem.EqMixed.eq_int_str (fin_bl I q (by simp))
    | _ => exact absurd (show false = true from hs) Bool.false_ne_true
  | str i =>
    obtain ⟨t, rfl⟩ := rx
    cases y with
    | non => cases ry; exact PySem.EqNone.eq_str_none (fin_bl I q (by simp))
    | bl j => cases ry; exact PySem.EqMixed.eq_str_bool (fin_bl I q (by simp))
    | int j => obtain ⟨t', rfl⟩ := ry; exact PySem.EqMixed.eq_str_int (fin_bl I q (by simp))
    | str j => obtain ⟨t', rfl⟩ := ry; exact eq_str (fin_bl I q dec_str)
    | _ => exact absurd (show false = true from hs) Bool.false_ne_true
  | byt i =>
    obtain ⟨t, rfl⟩ := rx
    cases y with
    | byt j => obtain ⟨t', rfl⟩ := ry; exact PySem.W.eq_bytes (fin_bl I q dec_byt)
    | _ => exact absurd (show false = true from hs) Bool.false_ne_true
  | _ => cases y <;> exact absurd (show false = true from hs) Bool.false_ne_true
theorem op_ne : OpR X (compareOp .NotEq) rNe := by
  intro pins s σ H x y v u Q I rx ry h
  obtain ⟨hs, q⟩ := h
  cases x with
  | non =>
    cases rx
    cases y with
    | non => cases ry; exact PySem.EqNone.ne_none_none (fin_bl I q (by simp))
    | bl j => cases ry; exact PySem.EqNone.ne_none_bool (fin_bl I q (by simp))
    | int j => obtain ⟨t', rfl⟩ := ry; exact PySem.EqNone.ne_none_int (fin_bl I q (by simp))
    | str j => obtain ⟨t', rfl⟩ := ry; exact PySem.EqNone.ne_none_str (fin_bl I q (by simp))
    | _ => exact absurd (show false = true from hs) Bool.false_ne_true
  | bl i =>
    cases rx
    cases y with
    | non => cases ry; exact PySem.EqNone.ne_bool_none (fin_bl I q (by simp))
    | bl j => cases ry; exact ne_bool (fin_bl I q (congrArg not dec_bl))
    | str j => obtain ⟨t', rfl⟩ := ry; exact PySem.EqMixed.ne_bool_str (fin_bl I q (by simp))
    | _ => exact absurd (show false = true from hs) Bool.false_ne_true
  | int i =>
    obtain ⟨t, rfl⟩ := rx
    cases y with
    | non => cases ry; exact PySem.EqNone.ne_int_none (fin_bl I q (by simp))
    | int j => obtain ⟨t', rfl⟩ := ry; exact ne_int (fin_bl I q (congrArg not dec_int))
    | str j => obtain ⟨t', rfl⟩ := ry; exact PySem.EqMixed.ne_int_str (fin_bl I q (by simp))
    | _ => exact absurd (show false = true from hs) Bool.false_ne_true
  | str i =>
    obtain ⟨t, rfl⟩ := rx
    cases y with
    | non => cases ry; exact PySem.EqNone.ne_str_none (fin_bl I q (by simp))
    | bl j => cases ry; exact PySem.EqMixed.ne_str_bool (fin_bl I q (by simp))
    | int j => obtain ⟨t', rfl⟩ := ry; exact PySem.EqMixed.ne_str_int (fin_bl I q (by simp))
    | str j => obtain ⟨t', rfl⟩ := ry; exact ne_str (fin_bl I q (congrArg not dec_str))
    | _ => exact absurd (show false = true from hs) Bool.false_ne_true
  | byt i =>
    obtain ⟨t, rfl⟩ := rx
    cases y with
    | byt j => obtain ⟨t', rfl⟩ := ry; exact PySem.W.ne_bytes (fin_bl I q (congrArg not dec_byt))
    | _ => exact absurd (show false = true from hs) Bool.false_ne_true
  | _ => cases y <;> exact absurd (show false = true from hs) Bool.false_ne_true

theorem op_lt : OpR X (compareOp .Lt) (rI0 fun i j => .bl (decide (i < j))) := opB0 fun _ _ _ _ _ _ _ q => lt_int q
theorem op_gt : OpR X (compareOp .Gt) (rI0 fun i j => .bl (decide (j < i))) := opB0 fun _ _ _ _ _ _ _ q => gt_int q
theorem nomark (b : Expr) {op : CmpOp} (h : op ≠ .In := by decide) (h2 : op ≠ .NotIn := by decide) : behindInMarks op b = false := by
  have e1 : (op == CmpOp.In) = false := by cases op <;> first | rfl | exact absurd rfl h
  have e2 : (op == CmpOp.NotIn) = false := by cases op <;> first | rfl | exact absurd rfl h2
  cases b <;> simp [behindInMarks, e1, e2]
/-- a comparison as a value; hm: nomark b, or (for in, not in) by with_unfolding_all rfl -/
theorem pe_cmpR {op : CmpOp} {r : R2} (ho : OpR X (compareOp op) r) (ha : PE X a ta) (hb : PE X b tb) (hm : behindInMarks op b = false) : PE X (.Compare a [op] [b] pos) (tOp r ta tb) := by
  intro pins s σ H Q I h
  exact wpAny_Compare1 (binT ha hb I h fun v u s2 x y H2 I2 rx ry q => ho pins s2 σ H2 x y v u Q I2 rx ry q) hm
/-- a reading of a value as a test -/
def tTest (t : TE) : TT := fun σ H Q => t σ H fun x H' => ∃ k, x = .bl k ∧ Q k H'
theorem pt_cmpR {op : CmpOp} {r : R2} (ho : OpR X (compareOp op) r) (ha : PE X a ta) (hb : PE X b tb) (hm : behindInMarks op b = false) : PT X (.Compare a [op] [b] pos) (tTest (tOp r ta tb)) := by
  intro pins s σ H Q I h
  refine wpAny_isTrue_Compare1 (thn (ha pins s σ H _ I h) fun v s1 ⟨x, H1, I1, r1, q1⟩ => thn (hb pins s1 σ H1 _ I1 q1) fun u s2 ⟨y, H2, I2, r2, q2⟩ =>
    thn (ho pins s2 σ H2 x y v u _ I2 r1 r2 q2) fun c s3 ⟨z, H3, I3, r3, k, e, q3⟩ => ?_) hm
  subst e
  cases r3
  exact wpAny_truthy_bool ⟨H3, I3, q3⟩
/-! ### truth -/
theorem line63 : (sizeLine : Nat) < 2 ^ 63 := by rw [sizeLine_eq]; decide
/-! ### strs and bytes -/
/-! ### scalar builtins, by CallR -/
theorem vals1 {x : V} {us : List Value} (r : Vals [x] us) : ∃ u, us = [u] ∧ RelV x u := by
  cases r with
  | cons r1 r2 => cases r2; exact ⟨_, rfl, r1⟩
theorem vals2 {x y : V} {us : List Value} (r : Vals [x, y] us) : ∃ u w', us = [u, w'] ∧ RelV x u ∧ RelV y w' := by
  cases r with
  | cons r1 r2 =>
    cases r2 with
    | cons r3 r4 => cases r4; exact ⟨_, _, rfl, r1, r3⟩
theorem call_max2 (hc : X.calm = true) : CallR X (.builtin "max") (fun xs H Q => ∃ i j, xs = [.int i, .int j] ∧ Q (.int (if j > i then j else i)) H) := by
  intro pins s σ H xs us Q I r h
  obtain ⟨i, j, rfl, q⟩ := h
  obtain ⟨u, w', rfl, ⟨t, rfl⟩, ⟨t', rfl⟩⟩ := vals2 r
  refine max_two_ints (I.ok.hd hc) fun h' tk k => ⟨_, H, I.kept k, ?_, q⟩
  by_cases hj : j > i
  · rw [if_pos hj, if_pos hj]; exact ⟨_, rfl⟩
  · rw [if_neg hj, if_neg hj]; exact ⟨_, rfl⟩
theorem call_min2 (hc : X.calm = true) : CallR X (.builtin "min") (fun xs H Q => ∃ i j, xs = [.int i, .int j] ∧ Q (.int (if j < i then j else i)) H) := by
  intro pins s σ H xs us Q I r h
  obtain ⟨i, j, rfl, q⟩ := h
  obtain ⟨u, w', rfl, ⟨t, rfl⟩, ⟨t', rfl⟩⟩ := vals2 r
  refine min_two_ints (I.ok.hd hc) fun h' tk k => ⟨_, H, I.kept k, ?_, q⟩
  by_cases hj : j < i
  · rw [if_pos hj, if_pos hj]; exact ⟨_, rfl⟩
  · rw [if_neg hj, if_neg hj]; exact ⟨_, rfl⟩
end
end L2

namespace L2
open PySem PySem.Spec PyProof.Rows

/-! ### an instance, its attributes a map -/
structure ObjM (h : Heap) (x dx C : Addr) (mA : Str → Option Value) : Prop where
  obj : h.get? x = some (PySem.W.instObj C dx)
  ns : h.Ns1 dx mA
  ne : dx ≠ x

theorem lookIn_ns {h : Heap} {dx : Addr} {mA : Str → Option Value} (n : h.Ns1 dx mA) : ∃ od, h.get? dx = some od ∧ ∀ name, PySem.W.lookIn name od = some (mA name) := by
  obtain ⟨o, es, ep, ho, hd, hk, _, hm⟩ := n
  refine ⟨o, ho, fun name => ?_⟩
  have e := hm name
  unfold nsFind findBy at e
  rw [← Array.find?_toList] at e
  unfold PySem.W.lookIn
  rw [hd]
  dsimp only
  split
  · rename_i y q
    rw [q] at e
    exact congrArg some e
  · rename_i q
    rw [q] at e
    have a : es.toList.any (·.refKey) = false := by
      rw [List.any_eq_false]
      intro y hy
      obtain ⟨z, t, hkey⟩ := hk y (Array.mem_toList_iff.mp hy)
      simp [DictEntry.refKey, hkey]
    have a' : ¬ es.toList.any (·.refKey) = true := by rw [a]; exact Bool.false_ne_true
    rw [if_neg a']
    exact congrArg some e

theorem ObjM.look {h : Heap} {x dx C : Addr} {mA : Str → Option Value} (I : ObjM h x dx C mA) : ∃ od, PySem.W.InstAt h x (PySem.W.instObj C dx) C (some od) ∧ ∀ name, PySem.W.lookIn name od = some (mA name) :=
  let ⟨od, ho, hl⟩ := lookIn_ns I.ns
  ⟨od, ⟨I.obj, rfl, rfl, ho⟩, hl⟩

section
variable {prog : Program} {w : World} {A : Around} {E : Value → Shared → Prop} {s : Shared} {K : PySem.W.Frag} {x dx C f : Addr} {mA : Str → Option Value} {name : Str} {v : Value}

theorem get_map {expr : Bool} {Q : Value → Shared → Prop} (X : K.In s.heap) (I : ObjM s.heap x dx C mA) (hg : PySem.W.plainGet K C name = true) (hh : PySem.W.hasDictIn K C = true)
    (ha : PySem.W.findIn K (.ref C) name = some none) (hv : mA name = some v) (hv' : PySem.W.handedIn v = true) (h : Q v { s with toks := s.toks + 1 }) :
    wpAny (model prog w) A (getAttr (.ref x) name expr) Q E s := by
  obtain ⟨od, J, hl⟩ := I.look
  exact PySem.W.get_value X J (PySem.W.plainGet_of hg).1 (PySem.W.findObj_own hh ha rfl (by rw [hl, hv])) hv' h

theorem get_meth {pl : Sem Bool} {Q : Value × List Value → Shared → Prop} (X : K.In s.heap) (I : ObjM s.heap x dx C mA) (hg : PySem.W.plainGet K C name = true)
    (hf : PySem.W.findIn K (.ref C) name = some (some (.ref f))) (ht : PySem.W.isFn K (.ref f) = true) (hv : mA name = none) (h : Q (.ref f, [.ref x]) s) :
    wpAny (model prog w) A (getMethod (.ref x) name pl) Q E s := by
  obtain ⟨od, J, hl⟩ := I.look
  exact PySem.W.method_fn X J (PySem.W.plainGet_of hg).1 (PySem.W.plainGet_of hg).2 hf (beq_iff_eq.mp ht) (by show (PySem.W.lookIn name od).map (·.isSome) = some false; rw [hl, hv]; rfl) h

theorem set_map {ns : List Str} {Q : Unit → Shared → Prop} (X : K.In s.heap) (I : ObjM s.heap x dx C mA)
    (hs : PySem.W.findIn K (.ref C) "__setattr__" = some (some (.builtin "object.__setattr__"))) (hp : PySem.W.plainOver K C = true) (ht : PySem.W.takerIn K C name = some none) (hh : PySem.W.hasDictIn K C = true)
    (hw : PySem.Within mA ns) (hsz : ns.length ≤ sizeLine)
    (h : ∀ h', ObjM h' x dx C (fun y => if y = name then some v else mA y) → Heap.SameBut dx s.heap h' → Q () { s with heap := h', toks := s.toks + 2 }) :
    wpAny (model prog w) A (setAttr (.ref x) name v) Q E s := by
  obtain ⟨od, J, hl⟩ := I.look
  refine PySem.W.set_plain X J hs (PySem.W.osa_open (s := { s with toks := s.toks + 1 }) (r := none) X J hp ht fun b => ?_)
  obtain ⟨cd, hc, hd'⟩ := PySem.W.any_some hh
  have hx : s.heap.get? x = some ⟨.ref C, some dx, .plain, #[]⟩ := I.obj
  refine wpAny_bind (wpAny_pure (wpAny_bind (wpAny_bind (wpAny_loadPart hx (wpAny_bind (PySem.W.Looks.here (s := { s with toks := s.toks + 1 }) (PySem.W.looks_clsIn X hc) ?_))))))
  rw [hd']
  refine wpAny_pure (a := some dx) (wpAny_bind (wpAny_pure (wpAny_bind ?_)))
  refine wpAny_nsSet1 (s := { s with toks := s.toks + 1 }) I.ns fun h' hn2 hs2 => ?_
  obtain ⟨oD, esD, epD, hoD, hdD, hcD⟩ := hn2.count (PySem.Within.cons name v hw)
  refine wpAny_bind (wpAny_lookBehind hoD (by rw [hdD]; exact pastItsLine_dict (Nat.le_trans hcD (by rw [List.length_cons]; omega))) ?_)
  exact wpAny_pure (h _ ⟨(hs2.2 _ (Ne.symm I.ne)).trans I.obj, hn2, I.ne⟩ hs2)

/-- C(..): the dict at the heap's end, the instance behind it; then its __init__ -/
theorem make_map {R : Result → Shared → Prop} {vs : List Value} {kw : List (Str × Value)} (X : K.In s.heap) (hm : PySem.W.makesIn K C = true)
    (hi : PySem.W.findIn K (.ref C) "__init__" = some (some (.ref f))) (hf : PySem.W.typeIn K (.ref f) = some (.type "function"))
    (h : codeAny (model prog w) (A.under (.builtin "type.__call__" ⟨.ref C :: vs, kw⟩)) (.call (.ref f) ⟨.ref (s.heap.objs.size + 1) :: vs, kw⟩) (PySem.W.InitBack (s.heap.objs.size + 1) R)
      { s with heap := (s.heap.push PySem.W.emptyDict).push (PySem.W.instObj C s.heap.objs.size) }) :
    codeAny (model prog w) A (.call (.ref C) ⟨vs, kw⟩) R s := by
  obtain ⟨hh, g, d, t, os⟩ := s
  exact PySem.W.make_core (PySem.W.makes_of X hm) (PySem.W.looks_findIn X hi) (fun self => PySem.W.bind_fn X self hf) (.inl rfl) h
end

/-! ### the attributes as a list of pairs -/
def putF (f : Str) (v : V) : List (Str × V) → List (Str × V)
  | [] => [(f, v)]
  | (g, x) :: r => if g = f then (g, v) :: r else (g, x) :: putF f v r
theorem lookup_putF (f g : Str) (v : V) : ∀ fs : List (Str × V), (putF f v fs).lookup g = if g = f then some v else fs.lookup g
  | [] => by
    show List.lookup g [(f, v)] = _
    by_cases h : g = f
    · have hb : (g == f) = true := beq_iff_eq.mpr h
      simp only [List.lookup, hb, if_pos h]
    · have hb : (g == f) = false := beq_eq_false_iff_ne.mpr h
      simp only [List.lookup, hb, if_neg h]
  | (k, x) :: r => by
    have ih := lookup_putF f g v r
    rw [show putF f v ((k, x) :: r) = (if k = f then (k, v) :: r else (k, x) :: putF f v r) from rfl]
    by_cases hk : k = f
    · rw [if_pos hk]
      by_cases h : g = k
      · have hb : (g == k) = true := beq_iff_eq.mpr h
        simp only [List.lookup, hb, if_pos (h.trans hk)]
      · have hb : (g == k) = false := beq_eq_false_iff_ne.mpr h
        simp only [List.lookup, hb, if_neg (fun e : g = f => h (e.trans hk.symm))]
    · rw [if_neg hk]
      by_cases h : g = k
      · have hb : (g == k) = true := beq_iff_eq.mpr h
        simp only [List.lookup, hb, if_neg (fun e : g = f => hk (h.symm.trans e))]
      · have hb : (g == k) = false := beq_eq_false_iff_ne.mpr h
        simp only [List.lookup, hb]
        exact ih
theorem keys_putF (f : Str) (v : V) : ∀ fs : List (Str × V), f ∈ (putF f v fs).map (·.1) ∧ ∀ g, g ∈ fs.map (·.1) → g ∈ (putF f v fs).map (·.1)
  | [] => ⟨by simp [putF], fun g h => by simp at h⟩
  | (k, x) :: r => by
    obtain ⟨i1, i2⟩ := keys_putF f v r
    rw [show putF f v ((k, x) :: r) = (if k = f then (k, v) :: r else (k, x) :: putF f v r) from rfl]
    by_cases hk : k = f
    · rw [if_pos hk]
      subst hk
      exact ⟨by simp, fun g h => by simpa using h⟩
    · rw [if_neg hk]
      refine ⟨?_, fun g h => ?_⟩
      · rw [List.map_cons]
        exact List.mem_cons_of_mem _ i1
      · rw [List.map_cons] at h ⊢
        rcases List.mem_cons.mp h with e | e
        · exact List.mem_cons.mpr (.inl e)
        · exact List.mem_cons_of_mem _ (i2 g e)
theorem length_putF (f : Str) (v : V) : ∀ fs : List (Str × V), (putF f v fs).length ≤ fs.length + 1
  | [] => by simp [putF]
  | (k, x) :: r => by
    have ih := length_putF f v r
    rw [show putF f v ((k, x) :: r) = (if k = f then (k, v) :: r else (k, x) :: putF f v r) from rfl]
    by_cases hk : k = f
    · rw [if_pos hk, List.length_cons, List.length_cons]; omega
    · rw [if_neg hk, List.length_cons, List.length_cons]; omega

theorem RelO.some_of {v : V} {o : Option Value} (r : RelO (some v) o) : ∃ u, o = some u ∧ RelV v u := by
  cases o with
  | none => exact (show False from r).elim
  | some u => exact ⟨u, rfl, r⟩
theorem RelO.none_of {o : Option Value} (r : RelO none o) : o = none := by
  cases o with
  | none => rfl
  | some u => exact (show False from r).elim
theorem handed_of {v : V} {u : Value} (r : RelV v u) : PySem.W.handedIn u = true := by
  cases v with
  | non => cases (show u = Value.none from r); rfl
  | bl b => cases (show u = Value.bool b from r); rfl
  | int i => obtain ⟨t, e⟩ := (show ∃ t, u = Value.int i t from r); cases e; rfl
  | str x => obtain ⟨t, e⟩ := (show ∃ t, u = Value.str x t from r); cases e; rfl
  | byt b => obtain ⟨t, e⟩ := (show ∃ t, u = Value.bytes b t from r); cases e; rfl
  | flt b => obtain ⟨t, e⟩ := (show ∃ t, u = Value.float b t from r); cases e; rfl
  | ref a => cases (show u = Value.ref a from r); rfl
  | ty n => cases (show u = Value.type n from r); rfl

section
variable {P : Program} {w : World} {H H' : Hp} {h h' : Heap} {a C dx : Addr} {fs fs' : List (Str × V)}
theorem ins_get (hok : HOk P w H h) (e : H a = some (.ins C dx fs)) : ∃ mA, ObjM h a dx C mA ∧ (∀ f, RelO (fs.lookup f) (mA f)) ∧ PySem.Within mA (fs.map (·.1)) ∧ fs.length ≤ 1000 ∧ H dx = some (.own a) := by
  obtain ⟨d, z, ne, ob, mA, n, r, q⟩ := (show ObjOk P w H h a (.ins C dx fs) from hok a _ e)
  exact ⟨mA, ⟨ob, n, ne⟩, r, q, z, d⟩
end

/-! ### what of the text a class must have -/
structure Cls (K : PySem.W.Frag) (C : Addr) : Prop where
  pg : PySem.W.plainGet K C Str.empty = true
  hd : PySem.W.hasDictIn K C = true
  po : PySem.W.plainOver K C = true
  sa : PySem.W.findIn K (.ref C) "__setattr__" = some (some (.builtin "object.__setattr__"))
theorem Cls.get {K : PySem.W.Frag} {C : Addr} (c : Cls K C) (f : Str) : PySem.W.plainGet K C f = true := c.pg
/-- no class of it has the name -/
def NoAttr (K : PySem.W.Frag) (C : Addr) (f : Str) : Prop := PySem.W.findIn K (.ref C) f = some none
theorem NoAttr.taker {K : PySem.W.Frag} {C : Addr} {f : Str} (n : NoAttr K C f) : PySem.W.takerIn K C f = some none := by
  unfold PySem.W.takerIn
  rw [show PySem.W.findIn K (.ref C) f = some none from n]
  rfl
/-- a constant of the class -/
structure Con (K : PySem.W.Frag) (C : Addr) (f : Str) (v : V) (u : Value) : Prop where
  at_ : PySem.W.findIn K (.ref C) f = some (some u)
  rel : RelV v u
  get : PySem.W.specialIn K u "__get__" = some none
  cp : PySem.W.copiedNames.contains f = false
/-- a method: a plain def of the class or of one above it -/
structure Meth (K : PySem.W.Frag) (C : Addr) (m : Str) (f : Addr) : Prop where
  at_ : PySem.W.findIn K (.ref C) m = some (some (.ref f))
  fn : PySem.W.isFn K (.ref f) = true
  kp : PySem.W.keepIn K (.ref f) = true

section
variable {X : Cx} {pins : List (Addr × Obj)} {σ : St} {H : Hp} {s : Shared} {a C dx : Addr} {fs : List (Str × V)} {f : Str} {v : V} {A : Around} {E : Value → Shared → Prop}

theorem getattr_ok {b : Bool} {Q : Value → Shared → Prop} (I : Inv X pins σ H s) (e : H a = some (.ins C dx fs)) (c : Cls X.K C) (n : NoAttr X.K C f) (l : fs.lookup f = some v)
    (h : ∀ u s', Inv X pins σ H s' → RelV v u → Q u s') : wpAny (model X.prog X.w) A (getAttr (.ref a) f b) Q E s := by
  obtain ⟨mA, O, r, _, _, _⟩ := ins_get I.hok e
  obtain ⟨u, hu, ru⟩ := RelO.some_of (v := v) (o := mA f) (by rw [← l]; exact r f)
  exact get_map I.kIn O (c.get f) c.hd n hu (handed_of ru) (h u _ (I.tok _) ru)

theorem getmeth_ok {m : Str} {g : Addr} {pl : Sem Bool} {Q : Value × List Value → Shared → Prop} (I : Inv X pins σ H s) (e : H a = some (.ins C dx fs)) (c : Cls X.K C) (k : Meth X.K C m g) (l : fs.lookup m = none)
    (h : Q (.ref g, [.ref a]) s) : wpAny (model X.prog X.w) A (getMethod (.ref a) m pl) Q E s := by
  obtain ⟨mA, O, r, _, _, _⟩ := ins_get I.hok e
  have hn : mA m = none := RelO.none_of (by rw [← l]; exact r m)
  exact get_meth I.kIn O (c.get m) k.at_ k.fn hn h

theorem setattr_ok {y : V} {u : Value} {Q : Unit → Shared → Prop} (I : Inv X pins σ H s) (e : H a = some (.ins C dx fs)) (c : Cls X.K C) (n : NoAttr X.K C f) (hl : fs.length < 1000) (ry : RelV y u)
    (h : ∀ s', Inv X pins σ (upd H a (.ins C dx (putF f y fs))) s' → Q () s') : wpAny (model X.prog X.w) A (setAttr (.ref a) f u) Q E s := by
  obtain ⟨mA, O, r, wi, _, ho⟩ := ins_get I.hok e
  have hz : (fs.map (·.1)).length ≤ sizeLine := by rw [List.length_map, sizeLine_eq]; omega
  refine set_map I.kIn O c.sa c.po n.taker c.hd wi hz fun h' O' sb => h _ ?_
  have hd : ∃ o, h'.get? dx = some o := let ⟨o, _, _, e', _⟩ := O'.ns; ⟨o, e'⟩
  refine I.write (x := a) (e := dx) (by rw [e]; exact True.intro) (.inr ho) (fun b q hb z => (sb.2 b hb).trans z) hd ?_
  refine ⟨by rw [upd_ne O.ne]; exact ho, ?_, O.ne, O'.obj, _, O'.ns, fun g => ?_, fun g hg => ?_⟩
  · have := length_putF f y fs; omega
  · show RelO ((putF f y fs).lookup g) (if g = f then some u else mA g)
    rw [lookup_putF]
    by_cases q : g = f
    · rw [if_pos q, if_pos q]; exact ry
    · rw [if_neg q, if_neg q]; exact r g
  · by_cases q : g = f
    · rw [q]; exact (keys_putF f y fs).1
    · refine (keys_putF f y fs).2 g (wi g fun z => hg ?_)
      show (if g = f then some u else mA g) = none
      rw [if_neg q]; exact z

/-- a new instance, tracked, without attributes -/
theorem Inv.made (I : Inv X pins σ H s) : Inv X pins σ (upd (upd H s.heap.objs.size (.own (s.heap.objs.size + 1))) (s.heap.objs.size + 1) (.ins C s.heap.objs.size []))
    { s with heap := (s.heap.push PySem.W.emptyDict).push (PySem.W.instObj C s.heap.objs.size) } := by
  have e1 : (s.heap.push PySem.W.emptyDict).get? s.heap.objs.size = some PySem.W.emptyDict := Heap.get?_push_size s.heap rfl
  have e2 : ((s.heap.push PySem.W.emptyDict).push (PySem.W.instObj C s.heap.objs.size)).get? (s.heap.objs.size + 1) = some (PySem.W.instObj C s.heap.objs.size) := by
    have := Heap.get?_push_size (s.heap.push PySem.W.emptyDict) (o := PySem.W.instObj C s.heap.objs.size) rfl
    rwa [Heap.size_push] at this
  have e3 : (s.heap.push PySem.W.emptyDict).Ns s.heap.objs.size (fun _ => none) := ⟨PySem.W.emptyDict, #[], _, e1, rfl, (fun e he => absurd he (by simp)), fun _ => rfl⟩
  have I1 := I.laid (a := s.heap.objs.size) (o := .own (s.heap.objs.size + 1)) (h' := s.heap.push PySem.W.emptyDict) (t' := s.toks) (fun b u q => Heap.get?_push_of_some _ q) (Nat.le_refl _) ⟨_, e1⟩
  refine I1.laid (a := s.heap.objs.size + 1) (o := .ins C s.heap.objs.size []) (t' := s.toks) (fun b u q => Heap.get?_push_of_some _ q) (Nat.le_of_eq (Heap.size_push _ _)) ?_
  have ne : s.heap.objs.size ≠ s.heap.objs.size + 1 := Nat.ne_of_lt (Nat.lt_succ_self _)
  refine ⟨by rw [upd_ne ne, upd_same], Nat.zero_le _, ne, e2, fun _ => none, (Heap.Ns1.of_empty e3).at fun o q => Heap.get?_push_of_some _ q, fun _ => True.intro, fun y hy => absurd rfl hy⟩

/-- e.f where nothing but the object is asked: through attributeBase (super) and the last hold -/
theorem attr_of {prog : Program} {w : World} {env : Env} {e : Expr} {f : Str} {pos : Pos} {s : Shared} {Q : Value → Shared → Prop} (hb : attributeBase e f env (eval e env) = eval e env)
    (h : wpAny (model prog w) A (eval e env) (fun o s₁ => wpAny (model prog w) A (getAttr o f true) Q E s₁) E s) : wpAny (model prog w) A (eval (.Attribute e f pos) env) Q E s :=
  Attribute_any_ h (by rw [arm_eval_Attribute, hb])
end

/-! ### readings and rules -/
/-- e.f, an attribute of the instance -/
def tFld (K : PySem.W.Frag) (ta : TE) (f : Str) : TE := fun σ H Q => ta σ H fun x H1 => ∃ a C dx fs v, x = .ref a ∧ H1 a = some (.ins C dx fs) ∧ Cls K C ∧ NoAttr K C f ∧ fs.lookup f = some v ∧ Q v H1
/-- e.f = value -/
def sFld (K : PySem.W.Frag) (ta tv : TE) (f : Str) : TS := fun D σ H => tv σ H fun y H1 => ta σ H1 fun x H2 => ∃ a C dx fs, x = .ref a ∧ H2 a = some (.ins C dx fs) ∧ Cls K C ∧ NoAttr K C f ∧ fs.length < 1000 ∧
  D.nx σ (upd H2 a (.ins C dx (putF f y fs)))
section
variable {X : Cx} {o e value : Expr} {f : Str} {pos pos' tpos : Pos} {ta tv : TE}
theorem pe_fld (he : PE X e ta) (hb : attributeBase e f X.env (eval e X.env) = eval e X.env) : PE X (.Attribute e f pos) (tFld X.K ta f) := by
  intro pins s σ H Q I h
  refine attr_of hb (thn (he pins s σ H _ I h) fun u s1 ⟨x, H1, I1, rx, a, C, dx, fs, v, ex, ea, c, n, l, q⟩ => ?_)
  subst ex
  obtain rfl : u = Value.ref a := rx
  exact getattr_ok I1 ea c n l fun u' s2 I2 ru => ⟨v, H1, I2, ru, q⟩
theorem ps_fld (ha : PE X o ta) (hv : PE X value tv) (hs : swapsWith value (some (.Attribute o f pos')) pos.line X.env = pure false) : PS X (.Assign [.Attribute o f pos'] value pos) (sFld X.K ta tv f) := by
  intro pins s σ H D I h
  refine plainObj_wpAny_Assign_Attribute (thn (hv pins s σ H _ I h) fun u s1 ⟨y, H1, I1, ry, q⟩ => thn (ha pins s1 σ H1 _ I1 q) fun ov s2 ⟨x, H2, I2, rx, a, C, dx, fs, ex, ea, c, n, l, q2⟩ => ?_) hs
  subst ex
  obtain rfl : ov = Value.ref a := rx
  exact setattr_ok I2 ea c n l ry fun s3 I3 => ⟨σ, _, I3, q2⟩
/-- what is between an instance and its method: the tree of a method call -/
theorem methcall_of {pl : Sem Bool} {m : Str} {apos : Pos} {args : List Expr} {pins : List (Addr × Obj)} {s : Shared} {σ : St} {H : Hp} {Q : Value → Shared → Prop} {te : TE} (he : PE X e te) (I : Inv X pins σ H s)
    (h : te σ H fun x H1 => ∃ a C dx fs g, x = .ref a ∧ H1 a = some (.ins C dx fs) ∧ Cls X.K C ∧ Meth X.K C m g ∧ fs.lookup m = none ∧
      ∀ s1, Inv X pins σ H1 s1 → wpAny (model X.prog X.w) X.A (callWith pos (.ref g) [.ref a] (backTo pos (starEach args X.env)) (backToKw pos (keywordEach [] X.env))) Q X.xe s1)
    (ht : eval (.Call (.Attribute e m apos) args [] pos) X.env = (do
      let ov ← eval e X.env
      standAt apos.atName
      let (f, first) ← holding [ov] (getMethod ov m pl)
      callWith pos f first (backTo pos (starEach args X.env)) (backToKw pos (keywordEach [] X.env)))) :
    wpAny (model X.prog X.w) X.A (eval (.Call (.Attribute e m apos) args [] pos) X.env) Q X.xe s := by
  refine PySem.W.methodCall_KW (pl := pl) (thn (he pins s σ H _ I h) fun u s1 ⟨x, H1, I1, rx, a, C, dx, fs, g, ex, ea, c, k, l, q⟩ => ?_) ht
  subst ex
  obtain rfl : u = Value.ref a := rx
  exact getmeth_ok I1 ea c k l (q s1 I1)
end

/-! ### isinstance -/
section
variable {X : Cx} {pins : List (Addr × Obj)} {σ : St} {H : Hp} {s : Shared} {A : Around} {E : Value → Shared → Prop} {Q : Value → Shared → Prop} {c : Value} {b : Bool}
/-- the type of a value, as the fragment's deciders take it; for an instance its class -/
inductive TyOf (K : PySem.W.Frag) (H : Hp) : V → Value → Prop where
  | non : TyOf K H .non (.type "NoneType")
  | bl (x : Bool) : TyOf K H (.bl x) (.type "bool")
  | int (i : Int) : TyOf K H (.int i) (.type "int")
  | str (x : Str) : TyOf K H (.str x) (.type "str")
  | flt (x : UInt64) : TyOf K H (.flt x) (.type "float")
  | lst {a : Addr} {xs : List V} (e : H a = some (.lst xs)) : TyOf K H (.ref a) (.type "list")
  | frz {a : Addr} {o : Obj} {xs : List V} (e : H a = some (.frz o (.lst xs))) : TyOf K H (.ref a) (.type "list")
  | tup {a : Addr} {xs : List V} (e : H a = some (.tup xs)) : TyOf K H (.ref a) (.type "tuple")
  | dK {a : Addr} {kvs : List (Key × V)} (e : H a = some (.dK kvs)) : TyOf K H (.ref a) (.type "dict")
  | dT {a : Addr} {kvs : List (List Key × V)} (e : H a = some (.dT kvs)) : TyOf K H (.ref a) (.type "dict")
  | ins {a C dx : Addr} {fs : List (Str × V)} (e : H a = some (.ins C dx fs)) (cl : Cls K C) (ha : PySem.W.findIn K (.ref C) "__class__" = some (some (.builtin "object.__class__")))
      (hn : PySem.W.specialIn K (.builtin "object.__class__") "__get__" = some (some (.builtin "getset_descriptor.__get__"))) (htk : PySem.W.takesIn K (.builtin "object.__class__") = some true)
      (hm : PySem.W.mroIn K C (.type "object") = some true) : TyOf K H (.ref a) (.ref C)
end
end L2

namespace L2
open PySem PySem.Spec PyProof.Rows

/-! ### room -/
structure Room (k : Nat) (A : Around) : Prop where
  hd : A.handled = none
  dp : A.depth + 3 * k + 5 < recursionLimit
  un : A.units + 16 * k + 200 < cLine
theorem Room.mono {j k : Nat} {A : Around} (r : Room k A) (h : j ≤ k) : Room j A := ⟨r.hd, by have := r.dp; omega, by have := r.un; omega⟩
theorem Room.deeper {k : Nat} {A : Around} (r : Room (k + 1) A) (env : Env) : Room k (A.deeper env) :=
  ⟨r.hd, by have := r.dp; show A.depth + 1 + 3 * k + 5 < _; omega, by have := r.un; show A.units + 3 + 16 * k + 200 < _; omega⟩
theorem make_depth {A : Around} {C : Addr} {us : List Value} {kw : List (Str × Value)} : (A.under (.builtin "type.__call__" ⟨.ref C :: us, kw⟩)).depth = A.depth + 1 := by
  first | rfl | simp [Around.under, Code.weight, Code.isCreation, Code.isGuard, Code.isCaller, Code.frames, Code.isFrame, guardIds]
theorem make_units {A : Around} {C : Addr} {us : List Value} {kw : List (Str × Value)} : (A.under (.builtin "type.__call__" ⟨.ref C :: us, kw⟩)).units = A.units + 1 := by
  first | rfl | simp [Around.under, Code.cUnits, Code.frames, Code.isFrame]
theorem Room.make {k : Nat} {A : Around} (r : Room (k + 1) A) (C : Addr) (us : List Value) (kw : List (Str × Value)) : Room k (A.under (.builtin "type.__call__" ⟨.ref C :: us, kw⟩)) :=
  ⟨r.hd, by have := r.dp; rw [make_depth]; omega, by have := r.un; rw [make_units]; omega⟩
theorem Room.depth {k : Nat} {A : Around} (r : Room k A) : A.depth < recursionLimit := by have := r.dp; omega
theorem Room.units {k : Nat} {A : Around} (r : Room k A) : A.units + 64 < cLine := by have := r.un; omega
/-! ### argument lists and displays -/
def tNil : TA := fun _ H Q => Q [] H
def tCons (ta : TE) (tr : TA) : TA := fun σ H Q => ta σ H fun x H1 => tr σ H1 fun xs H2 => Q (x :: xs) H2
section
variable {X : Cx} {e : Expr} {es : List Expr} {te : TE} {t : TA} {pos : Pos}
theorem pa_nil : PA X [] tNil := fun _ _ _ _ H Q I h => Calls.spliced_nil ⟨[], H, I, .nil, h⟩
theorem pa_cons (ha : PE X e te) (hr : PA X es t) (hs : starEach (e :: es) X.env = (false, eval e X.env) :: starEach es X.env := by rfl) : PA X (e :: es) (tCons te t) := by
  intro pos pins s σ H Q I h
  rw [hs]
  show wpAny _ _ (spliced ((false, eval e X.env) :: backTo pos (starEach es X.env))) _ _ s
  refine Calls.spliced_cons (thn (ha pins s σ H _ I h) fun u s1 ⟨x, H1, I1, r1, q1⟩ => ?_)
  exact thn (hr pos pins s1 σ H1 _ I1 q1) fun us s2 ⟨xs, H2, I2, r2, q2⟩ => ⟨x :: xs, H2, I2, .cons r1 r2, q2⟩

/-- a tuple, a list of written items -/
def tTup (t : TA) : TE := fun σ H Q => t σ H fun xs H1 => xs.length ≤ sizeLine ∧ ∀ p, H1 p = none → Q (.ref p) (upd H1 p (.tup xs))
def tLst (t : TA) : TE := fun σ H Q => t σ H fun xs H1 => xs.length ≤ sizeLine ∧ ∀ p, H1 p = none → Q (.ref p) (upd H1 p (.lst xs))
theorem pe_tup {x1} (h : PA X es t) : PE X (.Tuple es x1 pos) (tTup t) := by
  intro pins s σ H Q I hq
  refine wpAny_Tuple_spliced (thn (h pos pins s σ H _ I hq) fun us s1 ⟨xs, H1, I1, r, z, q⟩ => ⟨by rw [← r.length]; exact z, ?_⟩)
  have hf : H1 s1.heap.objs.size = none := I1.hok.fresh (Nat.le_refl _)
  refine ⟨.ref s1.heap.objs.size, upd H1 s1.heap.objs.size (.tup xs), I1.laid (t' := s1.toks) (fun b u e => Heap.get?_push_of_some _ e) (Nat.le_refl _) ?_, rfl, q _ hf⟩
  exact ⟨z, us, r, ⟨_, Heap.get?_push_size _ rfl, rfl, _, rfl⟩⟩
theorem pe_lst (h : PA X es t) : PE X (.List es pos) (tLst t) := by
  intro pins s σ H Q I hq
  refine wpAny_List_spliced (thn (h pos pins s σ H _ I hq) fun us s1 ⟨xs, H1, I1, r, z, q⟩ => ⟨by rw [← r.length]; exact z, ?_⟩)
  have hf : H1 s1.heap.objs.size = none := I1.hok.fresh (Nat.le_refl _)
  refine ⟨.ref s1.heap.objs.size, upd H1 s1.heap.objs.size (.lst xs), I1.laid (t' := s1.toks) (fun b u e => Heap.get?_push_of_some _ e) (Nat.le_refl _) ?_, rfl, q _ hf⟩
  exact ⟨z, us, 0, r, Heap.get?_push_size _ rfl⟩
end

/-! ### what a def promises -/
/-- a def's promise: the bound arguments in the parameters' order, the heap, the wanted end, the wanted exception -/
abbrev Sp := List V → Hp → VK → XK → Prop
/-- how an exception lies behind a call (file 08 gives it): the callers' frames, abstract heap and state ahead of the call, the wish, the exception, the state -/
abbrev CXT := List Env → Hp → Shared → XK → Value → Shared → Prop

/-- the state at a call -/
structure Env0 (P : Program) (w : World) (K : PySem.W.Frag) (mg : Str → Option Value) (base : Heap) (A : Around) (outer : List Env) (s : Shared) (H : Hp) : Prop where
  frames : A.frames = some outer
  mod : Mod K mg base
  bs : ∀ b o, base.get? b = some o → s.heap.get? b = some o ∧ H b = none
  bsz : base.objs.size ≤ s.heap.objs.size
  funs : s.heap.FunFrames base outer
  frf : ∀ b ∈ frs outer, H b = none
  hok : HOk P w H s.heap
  bare : AllBare s.gens
/-- a call's end -/
def CE (outer : List Env) (P : Program) (w : World) (H : Hp) (s : Shared) (Q : VK) (u : Value) (s' : Shared) : Prop :=
  ∃ v H', s'.os = s.os ∧ AllBare s'.gens ∧ Un (frs outer) [] H H' s.heap s'.heap ∧ HOk P w H' s'.heap ∧ RelV v u ∧ Q v H'
def CR (CX : CXT) (outer : List Env) (P : Program) (w : World) (H : Hp) (s : Shared) (Q : VK) (E : XK) (r : Result) (s' : Shared) : Prop :=
  match r with
  | .ok (.ret u) => CE outer P w H s Q u s'
  | .ok _ => False
  | .error e => CX outer H s E e s'
structure FnOk (P : Program) (w : World) (K : PySem.W.Frag) (mg : Str → Option Value) (base : Heap) (CX : CXT) (k : Nat) (f : Addr) (fd : FuncData) (ps : List Str) (sp : Sp) : Prop where
  len : ∀ vs H Q E, sp vs H Q E → vs.length = ps.length
  run : ∀ (A : Around) (outer : List Env) (s : Shared) (H : Hp) (args : Args) (us : List Value) (vs : List V) (Q : VK) (E : XK), Room k A → Env0 P w K mg base A outer s H → BindsTo s fd args (ps.zip us) → Vals vs us → sp vs H Q E →
    codeAny (model P w) A (.call (.ref f) args) (CR CX outer P w H s Q E) s
theorem Env0.make {P : Program} {w : World} {K : PySem.W.Frag} {mg : Str → Option Value} {base : Heap} {A : Around} {outer : List Env} {s : Shared} {H : Hp} (e : Env0 P w K mg base A outer s H) (C : Addr) (us : List Value) (kw : List (Str × Value)) :
    Env0 P w K mg base (A.under (.builtin "type.__call__" ⟨.ref C :: us, kw⟩)) outer s H := ⟨by first | exact e.frames | (simpa [Around.under, Code.envs, Code.isFrame, pushEnvs] using e.frames), e.mod, e.bs, e.bsz, e.funs, e.frf, e.hok, e.bare⟩
section
variable {X : Cx} {pins : List (Addr × Obj)} {σ : St} {H : Hp} {s s' : Shared}
/-- from a body: what a callee wants -/
theorem Inv.env0 (I : Inv X pins σ H s) : Env0 X.prog X.w X.K X.mg X.base X.A X.stack s H :=
  ⟨I.ok.frames, I.ok.mod, I.bs, Nat.le_trans I.ok.bsz I.sz, I.stack, I.stkFree, I.hok, I.bare⟩
/-- behind a call -/
theorem Inv.after {Q : VK} {u : Value} (I : Inv X pins σ H s) (h : CE X.stack X.prog X.w H s Q u s') : EP X pins σ Q u s' := by
  obtain ⟨v, H', os, bare, un, hok, r, q⟩ := h
  obtain ⟨hh, g, d, t, os'⟩ := s'
  obtain rfl : os' = s.os := os
  exact ⟨v, H', I.call (h' := hh) (g' := g) (d' := d) (t' := t) (ch := []) un hok bare (fun b z => absurd z (by simp)), r, q⟩
end

/-! ### calls -/
/-- f(..): the written arguments, then the defaults dvs; E: what is wanted of an exception -/
def tCall (sp : Sp) (dvs : List V) (E : XK) (t : TA) : TE := fun σ H Q => t σ H fun vs H1 => sp (vs ++ dvs) H1 Q E
/-- o.m(..) of an instance of the class at C -/
def tMeth (C : Addr) (m : Str) (sp : Sp) (dvs : List V) (E : XK) (ta : TE) (t : TA) : TE := fun σ H Q => ta σ H fun x H1 => ∃ a dx fs, x = .ref a ∧ H1 a = some (.ins C dx fs) ∧ fs.lookup m = none ∧
  t σ H1 fun vs H2 => sp (x :: (vs ++ dvs)) H2 Q E
/-- C(..): a new instance and its dict, then __init__ -/
def tMake (C : Addr) (sp : Sp) (dvs : List V) (E : XK) (t : TA) : TE := fun σ H Q => t σ H fun vs H1 => ∀ x dx, H1 x = none → H1 dx = none → dx ≠ x →
  sp (.ref x :: (vs ++ dvs)) (upd (upd H1 dx (.own x)) x (.ins C dx [])) (fun v H2 => v = .non ∧ Q (.ref x) H2) E

/-- how the parameters are bound: us the positional arguments, kw the keywords' values by name, ds the defaults that fill up -/
def Binds (K : PySem.W.Frag) (fd : FuncData) (ps : List Str) (ds : List Value) : Prop :=
  ∀ (s : Shared) (us : List Value), K.In s.heap → (us ++ ds).length = ps.length → BindsTo s fd ⟨us, []⟩ (ps.zip (us ++ ds))
/-- every parameter is given -/
theorem Binds.all {K : PySem.W.Frag} {fd : FuncData} {ps : List Str} (h : ∀ us : List Value, us.length = ps.length → bindArgs fd ⟨us, []⟩ = pure (ps.zip us)) : Binds K fd ps [] := fun s us _ hl => by
  rw [List.append_nil] at hl ⊢
  exact .of_eq (h us hl)

/-- an exception of a callee reaches what this body wants of exceptions -/
def Passes (CX : CXT) (X : Cx) (E : XK) : Prop := ∀ (pins : List (Addr × Obj)) (σ : St) (H : Hp) (s : Shared) (e : Value) (s' : Shared), Inv X pins σ H s → CX X.stack H s E e s' → X.xe e s'

section
variable {X : Cx} {CX : CXT} {k : Nat} {f C : Addr} {fd : FuncData} {ps : List Str} {sp : Sp} {dvs : List V} {ds : List Value} {E : XK} {x m : Str} {p pos apos : Pos} {e o : Expr} {es : List Expr} {ta : TE} {t : TA}

/-- the callee runs -/
theorem run_fn {pins : List (Addr × Obj)} {σ : St} {H : Hp} {s : Shared} {Q : VK} {us : List Value} {vs : List V} (F : FnOk X.prog X.w X.K X.mg X.base CX k f fd ps sp) (hr : Room k X.A) (hb : Binds X.K fd ps ds) (hd : Vals dvs ds) (hx : Passes CX X E)
    (I : Inv X pins σ H s) (r : Vals vs us) (h : sp (vs ++ dvs) H Q E) : wpAny (model X.prog X.w) X.A (call (.ref f) us) (EP X pins σ Q) X.xe s := by
  have r2 : Vals (vs ++ dvs) (us ++ ds) := r.append hd
  have hl : (us ++ ds).length = ps.length := by rw [← r2.length]; exact F.len _ _ _ _ h
  refine wpAny_call (codeAny_mono (F.run X.A X.stack s H ⟨us, []⟩ (us ++ ds) (vs ++ dvs) Q E hr I.env0 (hb s us I.kIn hl) r2 h) fun r s' hq => ?_)
  cases r with
  | error e => exact hx pins σ H s e s' I hq
  | ok fl =>
    cases fl with
    | ret u => exact I.after hq
    | next => exact False.elim hq
    | brk => exact False.elim hq
    | cont => exact False.elim hq

theorem pe_call (F : FnOk X.prog X.w X.K X.mg X.base CX k f fd ps sp) (hr : Room k X.A) (hg : Gl X x) (hm : X.mg x = some (.ref f)) (hk : PySem.W.keepIn X.K (.ref f) = true) (hb : Binds X.K fd ps ds) (hd : Vals dvs ds) (hx : Passes CX X E)
    (ha : PA X (e :: es) t) (hdb : (x == ("__debug__" : Str)) = false := by decide) (he : starEach (e :: es) X.env = (false, eval e X.env) :: starEach es X.env := by rfl) (hpl : (backTo pos (starEach es X.env)).any (·.1) = false := by rfl) :
    PE X (.Call (.Name x p) (e :: es) [] pos) (tCall sp dvs E t) := by
  intro pins s σ H Q I h
  refine wpAny_Call_Name_kw (ld_glob I hg hm ?_ hdb)
  refine PySem.W.callWith_K (h₀ := X.base) I.ok.mod.kin hk (thn (ha pos pins s σ H _ I h) fun us s1 ⟨vs, H1, I1, r, q⟩ => ⟨I1.kIn, ?_⟩) he hpl
  exact run_fn F hr hb hd hx I1 r q
/-- o.m(e, ..) -/
theorem pe_meth {pl : Sem Bool} (he : PE X o ta) (c : Cls X.K C) (hm : Meth X.K C m f) (F : FnOk X.prog X.w X.K X.mg X.base CX k f fd ps sp) (hr : Room k X.A) (hb : Binds X.K fd ps ds) (hd : Vals dvs ds) (hx : Passes CX X E) (ha : PA X (e :: es) t)
    (hst : starEach (e :: es) X.env = (false, eval e X.env) :: starEach es X.env := by rfl) (hpl : (backTo pos (starEach es X.env)).any (·.1) = false := by rfl)
    (ht : eval (.Call (.Attribute o m apos) (e :: es) [] pos) X.env = (do
      let ov ← eval o X.env
      standAt apos.atName
      let (f, first) ← holding [ov] (getMethod ov m pl)
      callWith pos f first (backTo pos (starEach (e :: es) X.env)) (backToKw pos (keywordEach [] X.env))) := by rfl) :
    PE X (.Call (.Attribute o m apos) (e :: es) [] pos) (tMeth C m sp dvs E ta t) := by
  intro pins s σ H Q I h
  refine PySem.W.methodCall_KW (pl := pl) (thn (he pins s σ H _ I h) fun u s1 ⟨x, H1, I1, rx, a, dx, fs, ex, ea, l, q⟩ => ?_) ht
  subst ex
  obtain rfl : u = Value.ref a := rx
  refine getmeth_ok I1 ea c hm l ?_
  refine PySem.W.callWith_K (first := [.ref a]) (h₀ := X.base) I.ok.mod.kin hm.kp (thn (ha pos pins s1 σ H1 _ I1 q) fun us s2 ⟨vs, H2, I2, r, q2⟩ => ⟨I2.kIn, ?_⟩) hst hpl
  exact run_fn (us := .ref a :: us) (vs := .ref a :: vs) F hr hb hd hx I2 (.cons rfl r) q2
/-- o.m() -/
theorem pe_meth0 {pl : Sem Bool} (he : PE X o ta) (c : Cls X.K C) (hm : Meth X.K C m f) (F : FnOk X.prog X.w X.K X.mg X.base CX k f fd ps sp) (hr : Room k X.A) (hb : Binds X.K fd ps ds) (hd : Vals dvs ds) (hx : Passes CX X E)
    (ht : eval (.Call (.Attribute o m apos) [] [] pos) X.env = (do
      let ov ← eval o X.env
      standAt apos.atName
      let (f, first) ← holding [ov] (getMethod ov m pl)
      callWith pos f first (backTo pos (starEach [] X.env)) (backToKw pos (keywordEach [] X.env))) := by rfl) :
    PE X (.Call (.Attribute o m apos) [] [] pos) (tMeth C m sp dvs E ta tNil) := by
  intro pins s σ H Q I h
  refine PySem.W.methodCall_KW (pl := pl) (thn (he pins s σ H _ I h) fun u s1 ⟨x, H1, I1, rx, a, dx, fs, ex, ea, l, q⟩ => ?_) ht
  subst ex
  obtain rfl : u = Value.ref a := rx
  refine getmeth_ok I1 ea c hm l ?_
  exact PySem.W.callWith_K0 (first := [.ref a]) I1.kIn hm.kp (run_fn (us := [.ref a]) (vs := [.ref a]) F hr hb hd hx I1 (.cons rfl .nil) q)

/-- what a class must have to be made -/
structure Mk (K : PySem.W.Frag) (C f : Addr) : Prop where
  makes : PySem.W.makesIn K C = true
  init : PySem.W.findIn K (.ref C) "__init__" = some (some (.ref f))
  fn : PySem.W.isFn K (.ref f) = true
  kp : PySem.W.keepIn K (.ref C) = true

theorem run_make {pins : List (Addr × Obj)} {σ : St} {H : Hp} {s : Shared} {Q : VK} {us : List Value} {vs : List V} (M : Mk X.K C f) (F : FnOk X.prog X.w X.K X.mg X.base CX k f fd ps sp) (hr : Room (k + 1) X.A) (hb : Binds X.K fd ps ds) (hd : Vals dvs ds)
    (hx : Passes CX X E) (I : Inv X pins σ H s) (r : Vals vs us)
    (h : ∀ x dx, H x = none → H dx = none → dx ≠ x → sp (.ref x :: (vs ++ dvs)) (upd (upd H dx (.own x)) x (.ins C dx [])) (fun v H2 => v = .non ∧ Q (.ref x) H2) E) :
    wpAny (model X.prog X.w) X.A (call (.ref C) us) (EP X pins σ Q) X.xe s := by
  have hq := h (s.heap.objs.size + 1) s.heap.objs.size (I.hok.fresh (Nat.le_succ _)) (I.hok.fresh (Nat.le_refl _)) (Nat.ne_of_lt (Nat.lt_succ_self _))
  have I2 := Inv.made (C := C) I
  have r2 : Vals (V.ref (s.heap.objs.size + 1) :: (vs ++ dvs)) (Value.ref (s.heap.objs.size + 1) :: (us ++ ds)) := .cons rfl (r.append hd)
  have hl : (Value.ref (s.heap.objs.size + 1) :: us ++ ds).length = ps.length := by
    have e := r2.length
    rw [F.len _ _ _ _ hq] at e
    exact e.symm
  refine wpAny_call (make_map (f := f) I.kIn M.makes M.init (beq_iff_eq.mp M.fn) (codeAny_mono (F.run _ X.stack _ _ ⟨Value.ref (s.heap.objs.size + 1) :: us, []⟩ (Value.ref (s.heap.objs.size + 1) :: (us ++ ds)) _ _ E (hr.make C us [])
    (I2.env0.make C us []) (hb _ (Value.ref (s.heap.objs.size + 1) :: us) I2.kIn hl) r2 hq) fun r s' hq' => ?_))
  cases r with
  | error e => exact hx pins σ _ _ e s' I2 hq'
  | ok fl =>
    cases fl with
    | ret u =>
      obtain ⟨v, H', I3, rv, ev, q3⟩ := I2.after hq'
      subst ev
      exact ⟨rv, ⟨V.ref (s.heap.objs.size + 1), H', I3, rfl, q3⟩⟩
    | next => exact False.elim hq'
    | brk => exact False.elim hq'
    | cont => exact False.elim hq'
theorem pe_make (M : Mk X.K C f) (F : FnOk X.prog X.w X.K X.mg X.base CX k f fd ps sp) (hr : Room (k + 1) X.A) (hg : Gl X x) (hm : X.mg x = some (.ref C)) (hb : Binds X.K fd ps ds) (hd : Vals dvs ds) (hx : Passes CX X E)
    (ha : PA X (e :: es) t) (hdb : (x == ("__debug__" : Str)) = false := by decide) (he : starEach (e :: es) X.env = (false, eval e X.env) :: starEach es X.env := by rfl) (hpl : (backTo pos (starEach es X.env)).any (·.1) = false := by rfl) :
    PE X (.Call (.Name x p) (e :: es) [] pos) (tMake C sp dvs E t) := by
  intro pins s σ H Q I h
  refine wpAny_Call_Name_kw (ld_glob I hg hm ?_ hdb)
  refine PySem.W.callWith_K (h₀ := X.base) I.ok.mod.kin M.kp (thn (ha pos pins s σ H _ I h) fun us s1 ⟨vs, H1, I1, r, q⟩ => ⟨I1.kIn, ?_⟩) he hpl
  exact run_make M F hr hb hd hx I1 r q
theorem pe_make0 (M : Mk X.K C f) (F : FnOk X.prog X.w X.K X.mg X.base CX k f fd ps sp) (hr : Room (k + 1) X.A) (hg : Gl X x) (hm : X.mg x = some (.ref C)) (hb : Binds X.K fd ps ds) (hd : Vals dvs ds) (hx : Passes CX X E)
    (hdb : (x == ("__debug__" : Str)) = false := by decide) : PE X (.Call (.Name x p) [] [] pos) (tMake C sp dvs E tNil) := by
  intro pins s σ H Q I h
  refine wpAny_Call_Name_kw (ld_glob I hg hm ?_ hdb)
  exact PySem.W.callWith_K0 I.kIn M.kp (run_make (us := []) M F hr hb hd hx I .nil h)
end

/-! ### keywords -/
section
variable {X : Cx} {CX : CXT} {k : Nat} {f C : Addr} {fd : FuncData} {ps ks : List Str} {sp : Sp} {E : XK} {x m : Str} {p pos apos kpos : Pos} {e o : Expr} {es : List Expr} {kws : List Keyword} {te ta : TE} {t tk : TA} {nm : Option Str}
/-- how a call with keywords binds: g puts the positional values us and the keywords' values ws (names ks) in the parameters' order, defaults among them -/
structure KBinds (K : PySem.W.Frag) (fd : FuncData) (ps ks : List Str) (g : List Value → List Value → List Value) (gV : List V → List V → List V) : Prop where
  to : ∀ (s : Shared) (us ws : List Value), K.In s.heap → (g us ws).length = ps.length → BindsTo s fd ⟨us, ks.zip ws⟩ (ps.zip (g us ws))
  rel : ∀ {vs : List V} {us : List Value} {zs : List V} {ws : List Value}, Vals vs us → Vals zs ws → Vals (gV vs zs) (g us ws)
variable {g : List Value → List Value → List Value} {gV : List V → List V → List V}
end

/-! ### a def's body keeps its promise -/
/-- names: the parameters first -/
structure FnScope (N P : List Str) (sc : Scope) : Prop where
  kind : sc.kind = .function
  co : sc.isCoroutine = false
  gen : sc.isGenerator = false
  nd : N.Nodup
  pre : N.take P.length = P
  par : ∀ x ∈ P, sc.names.lookup x = some .local ∨ sc.names.lookup x = some .cell
  nofree : ∀ y ∈ sc.names, y.2 ≠ .free

theorem bindL_out {kindOf : Str → Option NameKind} {x : Str} : ∀ {binds : List (Str × Value)} {m : Str → Option Value}, (∀ v, (x, v) ∉ binds) → bindL kindOf binds m x = m x
  | [], _, _ => rfl
  | (n, v) :: r, m, h => by
    unfold bindL
    rw [bindL_out fun w hw => h w (List.mem_cons_of_mem _ hw)]
    split
    · have : x ≠ n := by rintro rfl; exact h v List.mem_cons_self
      simp [this]
    · rfl
theorem bindC_out {kindOf : Str → Option NameKind} {x : Str} : ∀ {binds : List (Str × Value)} {m : Str → Option Value}, (∀ v, (x, v) ∉ binds) → bindC kindOf binds m x = m x
  | [], _, _ => rfl
  | (n, v) :: r, m, h => by
    unfold bindC
    rw [bindC_out fun w hw => h w (List.mem_cons_of_mem _ hw)]
    split
    · rfl
    · have : x ≠ n := by rintro rfl; exact h v List.mem_cons_self
      simp [this]
theorem bindL_get {kindOf : Str → Option NameKind} {x : Str} {v : Value} : ∀ {P : List Str} {vs : List Value} {i : Nat} {m : Str → Option Value}, P.Nodup → P[i]? = some x → vs[i]? = some v → kindOf x = some .local →
    bindL kindOf (P.zip vs) m x = some v
  | [], _, _, _, _, h, _, _ => by simp at h
  | _ :: _, [], _, _, _, _, h, _ => by simp at h
  | p :: P, w :: vs, 0, m, nd, h1, h2, hk => by
    simp at h1 h2; subst h1; subst h2
    show bindL kindOf ((p, w) :: P.zip vs) m p = _
    unfold bindL
    rw [bindL_out fun v hv => (List.nodup_cons.mp nd).1 (List.of_mem_zip hv).1, if_pos hk]
    simp
  | p :: P, w :: vs, i + 1, m, nd, h1, h2, hk => by
    show bindL kindOf ((p, w) :: P.zip vs) m x = _
    unfold bindL
    exact bindL_get (i := i) (List.nodup_cons.mp nd).2 (by simpa using h1) (by simpa using h2) hk
theorem bindC_get {kindOf : Str → Option NameKind} {x : Str} {v : Value} : ∀ {P : List Str} {vs : List Value} {i : Nat} {m : Str → Option Value}, P.Nodup → P[i]? = some x → vs[i]? = some v → kindOf x ≠ some .local →
    bindC kindOf (P.zip vs) m x = some v
  | [], _, _, _, _, h, _, _ => by simp at h
  | _ :: _, [], _, _, _, _, h, _ => by simp at h
  | p :: P, w :: vs, 0, m, nd, h1, h2, hk => by
    simp at h1 h2; subst h1; subst h2
    show bindC kindOf ((p, w) :: P.zip vs) m p = _
    unfold bindC
    rw [bindC_out fun v hv => (List.nodup_cons.mp nd).1 (List.of_mem_zip hv).1, if_neg hk]
    simp
  | p :: P, w :: vs, i + 1, m, nd, h1, h2, hk => by
    show bindC kindOf ((p, w) :: P.zip vs) m x = _
    unfold bindC
    exact bindC_get (i := i) (List.nodup_cons.mp nd).2 (by simpa using h1) (by simpa using h2) hk

/-- the names' values at the entry -/
def start (N : List Str) (vs : List V) : St := vs.map some ++ List.replicate (N.length - vs.length) none

/-- the context of a def's body, at its entry; an exception leaves the frame, then lies as CX says -/
def cxOf (CX : CXT) (P : Program) (w : World) (K : PySem.W.Frag) (mg : Str → Option Value) (base : Heap) (N : List Str) (qual : Str) (scope : Scope) (f : Addr) (cd : Value) (A : Around) (outer : List Env) (s : Shared) (H : Hp) (E : XK) : Cx where
  prog := P
  w := w
  K := K
  mg := mg
  base := base
  A := A.deeper (envOfC qual scope s.heap.objs.size f cd)
  N := N
  s_0 := s
  H_0 := H
  env := envOfC qual scope s.heap.objs.size f cd
  outer := outer
  stack := envOfC qual scope s.heap.objs.size f cd :: outer
  ex := []
  calm := true
  fn := fun _ => true
  pn := []
  xe := fun e s' => wpAny (model P w) (A.deeper (envOfC qual scope s.heap.objs.size f cd)) (leaving (envOfC qual scope s.heap.objs.size f cd) e) (fun _ s'' => CX outer H s E e s'') (fun e' s'' => CX outer H s E e' s'') s'

theorem cell_has {sc : Scope} {n : Nat} {x : Str} (h : sc.names.lookup x = some .cell) : ∃ c, (cellsFrom n sc.names []).lookup x = some c := by
  have q := PySem.W.cellsFrom_some sc.names n [] (.inl h)
  exact Option.isSome_iff_exists.mp q

theorem inv_start {CX : CXT} {P : Program} {w : World} {K : PySem.W.Frag} {mg : Str → Option Value} {base : Heap} {N ps : List Str} {qual : Str} {scope : Scope} {f : Addr} {cd : Value} {A : Around} {outer : List Env} {s s1 : Shared} {H : Hp} {E : XK} {us : List Value} {vs : List V}
    (S : FnScope N ps scope) (hd : A.handled = none) (e0 : Env0 P w K mg base A outer s H) (hl : vs.length = ps.length) (r : Vals vs us)
    (x : InCallC s s.heap.objs.size (bindL (envOfC qual scope s.heap.objs.size f cd).kindOf (ps.zip us) fun _ => none) (cellsFrom (s.heap.objs.size + 1) scope.names []) (bindC (envOfC qual scope s.heap.objs.size f cd).kindOf (ps.zip us) fun _ => none) s1) :
    Inv (cxOf CX P w K mg base N qual scope f cd A outer s H E) [] (start N vs) H s1 := by
  have hpl : ps.length ≤ N.length := by have := congrArg List.length S.pre; rw [List.length_take] at this; omega
  obtain ⟨h1, tk, rfl, hk⟩ := x.done
  have noA : ∀ b : Addr, b ∉ (cxOf CX P w K mg base N qual scope f cd A outer s H E).ex := fun b z => absurd (show b ∈ ([] : List Addr) from z) (by simp)
  refine ⟨⟨e0.mod, S.kind, rfl, rfl, Nat.le_refl _, fun y z c h1 h2 => ?_, fun y hy => ?_, fun y c _ h => ?_, fun _ => hd, Around.frames_deeper e0.frames, .inr ⟨rfl, rfl⟩, fun b z => absurd z (noA b), e0.bs, e0.bsz, fun b _ _ => noA b, fun b z => absurd z (noA b), e0.funs, e0.frf⟩,
    rfl, e0.bare, Un.kept hk, ⟨_, x.toInCall.ns, fun i y v h1 h2 h3 => ?_⟩, fun y c h => ⟨_, x.cell y c h⟩, e0.hok.fresh (Nat.le_refl _), fun y c h => ?_, fun p hp => absurd (show p ∈ ([] : List (Addr × Obj)) from hp) (by simp), e0.hok.kept hk, ?_⟩
  · exact name_of_addr x.apart (PySem.mem_of_lookup h1) (PySem.mem_of_lookup h2)
  · have hy : scope.names.lookup y = some .cell ∨ scope.names.lookup y = some .free := hy
    rcases hy with hy | hy
    · exact cell_has hy
    · exact absurd rfl (S.nofree _ (PySem.mem_of_lookup hy))
  · exact Nat.le_of_lt (x.above y c (PySem.mem_of_lookup h))
  · have hi : i < vs.length := by
      unfold start at h2
      by_cases hi : i < vs.length
      · exact hi
      · rw [List.getElem?_append_right (by simpa using hi)] at h2
        rw [List.getElem?_replicate] at h2
        split at h2 <;> cases h2
    have ha : vs[i]? = some v := by
      unfold start at h2
      rw [List.getElem?_append_left (by simpa using hi), List.getElem?_map] at h2
      cases e : vs[i]? with
      | none => rw [e] at h2; cases h2
      | some a => rw [e] at h2; cases h2; rfl
    obtain ⟨u, hu, rv⟩ := r.get ha
    have hp : ps[i]? = some y := by
      rw [← S.pre, List.getElem?_take_of_lt (by omega)]; exact h1
    have ndP : ps.Nodup := by rw [← S.pre]; exact S.nd.sublist (List.take_sublist _ _)
    refine ⟨u, rv, ?_⟩
    rcases S.par y (List.mem_of_getElem? hp) with k | k
    · exact .inl ⟨k, bindL_get ndP hp hu k⟩
    · obtain ⟨c, e⟩ := cell_has (n := s.heap.objs.size + 1) k
      refine .inr ⟨.inl k, c, e, ?_⟩
      have q := x.cell y c e
      rw [bindC_get ndP hp hu (by show scope.names.lookup y ≠ _; rw [k]; decide)] at q
      exact q
  · exact e0.hok.fresh (Nat.le_of_lt (x.above y c (PySem.mem_of_lookup h)))
  · unfold start
    show _ = N.length
    rw [List.length_append, List.length_map, List.length_replicate]
    omega

/-- THE RULE: a def (or a method) of the text, by its body. The body's reading t is chosen for each entry; it is run at the parameters' values -/
theorem fn_of {CX : CXT} {P : Program} {w : World} {K : PySem.W.Frag} {mg : Str → Option Value} {base : Heap} {k : Nat} {f : Addr} {name qual : Str} {params : Arguments} {body : List Stmt} {scope : Scope} {dV kV doc pm cdv ct oc : Value} {an od : Option Addr}
    {osl : Array (Option Value)} {N ps : List Str} {sp : Sp} (lk : K.lookup f = some ⟨oc, od, .func (PySem.W.fnOf name qual params body scope dV kV doc pm an cdv ct), osl⟩) (hcd : PySem.W.codeIn K cdv qual = true) (S : FnScope N ps scope)
    (len : ∀ vs H Q E, sp vs H Q E → vs.length = ps.length)
    (hbody : ∀ (A : Around) (outer : List Env) (s : Shared) (H : Hp) (vs : List V) (Q : VK) (E : XK), Room k (A.deeper (envOfC qual scope s.heap.objs.size f cdv)) → sp vs H Q E →
      ∃ t, PSs (cxOf CX P w K mg base N qual scope f cdv A outer s H E) body t ∧ t { nx := fun _ H' => Q .non H', rt := Q } (start N vs) H) :
    FnOk P w K mg base CX (k + 1) f (PySem.W.fnOf name qual params body scope dV kV doc pm an cdv ct) ps sp := by
  refine ⟨len, fun A outer s H args us vs Q E hr e0 hb r hsp => ?_⟩
  have hl := len _ _ _ _ hsp
  have KX : K.In s.heap := e0.mod.kin.keeps fun b o e => (e0.bs b o e).1
  have lim : s.heap.NoLimit := e0.mod.nolimit.keeps fun b o e => (e0.bs b o e).1
  have hkind : ∀ y ∈ ps.zip us, scope.names.lookup y.1 = some .local ∨ (scope.names.lookup y.1 = some .cell ∧ ((cellsFrom (s.heap.objs.size + 1) scope.names []).lookup y.1).isSome = true) := fun ⟨n, v⟩ hy => by
    rcases S.par n (List.of_mem_zip hy).1 with q | q
    · exact .inl q
    · exact .inr ⟨q, PySem.W.cellsFrom_some _ _ _ (.inl q)⟩
  refine codeAny_call_function hr.depth (KX _ _ lk) rfl S.co S.gen rfl (PySem.W.codeRec_of KX hcd) (hb _ _ _ _ ?_)
  refine wpAny_newFunctionEnv_cells S.kind hkind fun env he s1 x => ?_
  subst he
  refine ⟨lim.keeps x.toInCall.keep, codeAny_func ?_⟩
  obtain ⟨t, ht, hq⟩ := hbody A outer s H vs Q E (hr.deeper _) hsp
  have I : Inv (cxOf CX P w K mg base N qual scope f cdv A outer s H E) [] (start N vs) H s1 := inv_start S hr.hd e0 hl r x
  refine wpAny_mono (ht [] s1 (start N vs) H _ I hq) (fun fl s' hs => ?_) fun e s' hs => hs
  have fin : ∀ {σ' : St} {H' : Hp} {v : V} {u : Value}, Inv (cxOf CX P w K mg base N qual scope f cdv A outer s H E) [] σ' H' s' → RelV v u → Q v H' → CE outer P w H s Q u s' :=
    fun {σ' H' v u} J rv q => ⟨v, H', J.os, J.bare, J.base, J.hok, rv, q⟩
  cases fl with
  | ret u =>
    obtain ⟨v, σ', H', J, rv, q⟩ := hs
    exact fin J rv q
  | next =>
    obtain ⟨σ', H', J, q⟩ := hs
    exact fin (v := V.non) (u := Value.none) J rfl q
  | brk =>
    obtain ⟨_, _, _, q⟩ := hs
    exact False.elim q
  | cont =>
    obtain ⟨_, _, _, q⟩ := hs
    exact False.elim q
end L2

namespace L2
open PySem PySem.Spec PyProof.Rows
section
variable {X : Cx} {x : Str} {p pos : Pos} {e : Expr} {es : List Expr} {t : TA} {id T : String} {r : List V → Hp → VK → Prop}

def tCB (r : List V → Hp → VK → Prop) (t : TA) : TE := fun σ H Q => t σ H fun vs H1 => r vs H1 Q
/-- f(e, ..), f a built-in function -/
theorem pe_callB (hc : CallR X (.builtin id) r) (hg : Gl X x) (hm : X.mg x = none) (hv : bootBuiltins x = some (.builtin id)) (ha : PA X (e :: es) t) (hn : x ≠ "__name__" := by decide) (hdb : (x == ("__debug__" : Str)) = false := by decide)
    (he : starEach (e :: es) X.env = (false, eval e X.env) :: starEach es X.env := by rfl) (hpl : (backTo pos (starEach es X.env)).any (·.1) = false := by rfl) : PE X (.Call (.Name x p) (e :: es) [] pos) (tCB r t) := by
  intro pins s σ H Q I h
  refine wpAny_Call_Name_kw (ld_blt I hg hm hv ?_ hn hdb)
  exact PyProof.Rows.callWith_builtin1 (thn (ha pos pins s σ H _ I h) fun us s1 ⟨vs, H1, I1, r1, q1⟩ => hc pins s1 σ H1 vs us Q I1 r1 q1) he hpl
end
end L2

namespace HT
open PySem PyProof.Rows

/-- t < u of tuples of ints -/
def lexLt : List Int → List Int → Bool
  | [], [] => false
  | [], _ :: _ => true
  | _ :: _, [] => false
  | x :: xs, y :: ys => if x = y then lexLt xs ys else decide (x < y)
theorem lexLt_cons (x y : Int) (xs ys : List Int) : lexLt (x :: xs) (y :: ys) = if x = y then lexLt xs ys else decide (x < y) := rfl
theorem lexLt_nil_nil : lexLt [] [] = false := rfl
theorem lexLt_nil_cons (y : Int) (ys : List Int) : lexLt [] (y :: ys) = true := rfl
theorem lexLt_cons_nil (x : Int) (xs : List Int) : lexLt (x :: xs) [] = false := rfl

theorem eqAt_int (A : Around) (s : Shared) (a : Int) (t : Tok) (c : Int) (u : Tok) : ∃ e, SeqAt.EqAt A s (.int a t) (.int c u) e ∧ (e = true ↔ a = c) :=
  ⟨(a == c), SeqAt.EqAt.int_int a t c u, by simp⟩
theorem rcLt_int (A : Around) (s : Shared) (a : Int) (t : Tok) (c : Int) (u : Tok) (prog : Program) (w : World) (E : Value → Shared → Prop) (Q : Value → Shared → Prop) (h : Q (.bool (decide (a < c))) s) :
    wpAny (model prog w) A (richCompare .Lt (.int a t) (.int c u)) Q E s :=
  (PyProof.Rows.lt_int h : wpAny (model prog w) A (compareOp .Lt (.int a t) (.int c u)) Q E s)

section
open PySem.SeqAt
open PySem.AutoSeq1 (wpAny_loadPart')
open PySem.MeetsSeq PySem.MeetsSeq2 PySem.MeetsSeq3

theorem tuple_lt_ints (l b : Addr) (items items2 : Array Value) (n n2 : Nat) (dd dd2 : Option Addr) (sl sl2 : Array (Option Value)) (ns ms : List Int) (hi : IntsAre items.toList ns) (hj : IntsAre items2.toList ms) :
    Meets (Builtin.«tuple.__lt__» ⟨[.ref l, .ref b], []⟩)
      (fun _ R s => s.heap.get? l = some { cls := .type "tuple", dict := dd, data := .seq items n, slots := sl } ∧ s.heap.get? b = some { cls := .type "tuple", dict := dd2, data := .seq items2 n2, slots := sl2 } ∧
        R (.ok (.ret (.bool (lexLt ns ms)))) s) :=
  .of_wp fun prog w A R s h => by
    obtain ⟨hp, g, d, tk, os⟩ := s; obtain ⟨hl, hb, h⟩ := h
    have f2 := AutoSeq1.sub_tuple_tuple
    have z1 : items.size = ns.length := by rw [← hi.length]; simp
    have z2 : items2.size = ms.length := by rw [← hj.length]; simp
    wp_walk using wpAny_loadPart' hl, wpAny_loadPart' hb, wpAny_forIn_list _ (fun rest b s' => b.1 = none ∧ s' = ⟨hp, g, d, tk, os⟩ ∧ ∃ (vs ws : List Value) (ns' ms' : List Int), rest = vs.zip ws ∧
      IntsAre vs ns' ∧ IntsAre ws ms' ∧ ns'.length + items2.size = ms'.length + items.size ∧ R (.ok (.ret (.bool (lexLt ns' ms')))) ⟨hp, g, d, tk, os⟩) _
    case turn =>
      rintro ⟨y, x⟩ rest b s' ⟨hb', rfl, vs, ws, ns', ms', hz, hvi, hwi, hlen, hR⟩
      cases hvi with
      | nil => rw [List.zip_nil_left] at hz; cases hz
      | cons a t hvi' =>
        cases hwi with
        | nil => rw [List.zip_nil_right] at hz; cases hz
        | cons c u hwi' =>
          rw [List.zip_cons_cons] at hz
          injection hz with hyx hrest
          injection hyx with hy hx
          subst hy hx
          rw [lexLt_cons] at hR
          simp only [List.length_cons] at hlen
          obtain ⟨e, he, hiff⟩ := eqAt_int A.in1 ⟨hp, g, d, tk, os⟩ a t c u
          refine wpAny_bind (he prog w _ _ ?_)
          cases e with
          | true =>
            rw [if_pos (hiff.mp rfl)] at hR
            wp_walk
            exact ⟨rfl, rfl, _, _, _, _, hrest, hvi', hwi', by omega, hR⟩
          | false =>
            rw [if_neg (fun q => absurd (hiff.mpr q) Bool.false_ne_true)] at hR
            have hri := rcLt_int A.in1 ⟨hp, g, d, tk, os⟩ a t c u prog w
            wp_walk using hri
            exact ⟨_, rfl, by simpa using hR⟩
    case fin =>
      rintro ⟨b1, b2⟩ s' ⟨hb', rfl, vs, ws, ns', ms', hz, hvi, hwi, hlen, hR⟩
      simp only at hb'
      subst hb'
      have hv : lexLt ns' ms' = decide (items.size < items2.size) := by
        cases hvi with
        | nil =>
          cases hwi with
          | nil =>
            simp only [List.length_nil] at hlen
            rw [lexLt_nil_nil]
            exact (decide_eq_false (by omega)).symm
          | cons c u hw =>
            simp only [List.length_nil, List.length_cons] at hlen
            rw [lexLt_nil_cons]
            exact (decide_eq_true (by omega)).symm
        | cons a t hv =>
          cases hwi with
          | nil =>
            simp only [List.length_nil, List.length_cons] at hlen
            rw [lexLt_cons_nil]
            exact (decide_eq_false (by omega)).symm
          | cons c u hw =>
            rw [List.zip_cons_cons] at hz
            cases hz
      rw [hv] at hR
      wp_walk
      exact ⟨_, rfl, by simpa [Builtin.Tuple.tupleCompareSizes] using hR⟩
    case h =>
      exact ⟨rfl, rfl, items.toList, items2.toList, ns, ms, rfl, hi, hj, by omega, h⟩
end

section
variable {prog : Program} {w : World} {A : Around} {E : Value → Shared → Prop} {s : Shared}

theorem lt_tupInts {l b : Addr} {items items2 : Array Value} {ns ms : List Int} {Q : Value → Shared → Prop} (hl : IsTup s.heap l items) (hb : IsTup s.heap b items2) (hi : IntsAre items.toList ns) (hj : IntsAre items2.toList ms)
    (hu : A.units < cLine) (h : Q (.bool (lexLt ns ms)) s) : wpAny (model prog w) A (compareOp .Lt (.ref l) (.ref b)) Q E s := by
  obtain ⟨⟨cls, dd, data, sl⟩, ho, hc, n, hd⟩ := id hl
  obtain ⟨⟨cls2, dd2, data2, sl2⟩, ho2, hc2, n2, hd2⟩ := id hb
  simp only at hc hd hc2 hd2
  subst hc hd hc2 hd2
  exact richCompare_meets_room (op := .Lt) ⟨_, ho, rfl⟩ ⟨_, ho2, rfl⟩ PySem.F.slot_tuple_lt PySem.F.entry_tuple_lt (PySem.F.args_tuple_lt_2 _ _) (tuple_lt_ints l b items items2 n n2 dd dd2 sl sl2 ns ms hi hj)
    ⟨ho, ho2, show Value.bool (lexLt ns ms) ≠ Value.notImplemented ∧ Q (.bool (lexLt ns ms)) s from ⟨(fun x => nomatch x), h⟩⟩ hu

/-! ### t[a:b], not the whole -/
/-- a slice's bound as a place among n (d where it is left out) -/
def sIx (n d : Nat) : Option Int → Nat
  | none => d
  | some v => if v < 0 then (v + (n : Int)).toNat else min v.toNat n
theorem sIx_nat (n d k : Nat) : sIx n d (some (k : Int)) = min k n := by
  show (if (k : Int) < 0 then ((k : Int) + (n : Int)).toNat else min (k : Int).toNat n) = min k n
  rw [if_neg (by omega), Int.toNat_natCast]
end
end HT

namespace L2
open PySem PySem.Spec PyProof.Rows

/-! ### the parts of a slice -/
abbrev TO := St → Hp → (Option Int → Hp → Prop) → Prop
/-- a slice's part (left out, or an int) -/
def PO (X : Cx) (e : Option Expr) (t : TO) : Prop :=
  ∀ (pins : List (Addr × Obj)) (s : Shared) (σ : St) (H : Hp) (Q : Option Int → Hp → Prop), Inv X pins σ H s → t σ H Q →
    wpAny (model X.prog X.w) X.A (evalPart e X.env) (fun u s' => ∃ o H', Inv X pins σ H' s' ∧ IsPart u o ∧ Q o H') X.xe s
def tPart (t : TE) : TO := fun σ H Q => t σ H fun x H1 => ∃ i, x = .int i ∧ Q (some i) H1

theorem intsAre_of {ns : List Int} : ∀ {us : List Value}, Vals (ns.map V.int) us → IntsAre us ns := by
  induction ns with
  | nil => intro us r; rw [List.map_nil] at r; cases r; exact .nil
  | cons n ns ih =>
    intro us r
    rw [List.map_cons] at r
    cases r with
    | cons r1 r2 =>
      obtain ⟨t, e⟩ := r1
      subst e
      exact .cons n t (ih r2)

section
variable {X : Cx} {e : Expr} {te : TE} {lo hi : Option Expr} {tl th : TO} {pos p2 : Pos}

theorem po_some (h : PE X e te) : PO X (some e) (tPart te) := by
  intro pins s σ H Q I hw
  rw [evalPart_some]
  refine thn (h pins s σ H _ I hw) fun u s1 ⟨x, H1, I1, r1, q1⟩ => ?_
  obtain ⟨i, rfl, q⟩ := q1
  obtain ⟨t, rfl⟩ := r1
  exact ⟨some i, H1, I1, .int i t, q⟩

/-- what a slice of a value is, by values: the slice object stands at sl -/
def SlR (X : Cx) (r : V → Option Int → Option Int → Hp → VK → Prop) : Prop :=
  ∀ (pins : List (Addr × Obj)) (s : Shared) (σ : St) (H : Hp) (x : V) (v vl vu : Value) (lo hi : Option Int) (sl : Addr) (Q : VK), Inv X pins σ H s → RelV x v → s.heap.IsSliceOf sl vl vu .none → IsPart vl lo → IsPart vu hi → r x lo hi H Q →
    ∃ T id, typeLookup (.type T) "__getitem__" = pure (some (.builtin id)) ∧ s.TypeIs v T ∧ wpAny (model X.prog X.w) X.A (getItem v (.ref sl)) (EP X pins σ Q) X.xe s
def tSl (r : V → Option Int → Option Int → Hp → VK → Prop) (te : TE) (tl th : TO) : TE := fun σ H Q => te σ H fun x H1 => tl σ H1 fun l H2 => th σ H2 fun u H3 => r x l u H3 Q
/-- a[lo:hi], any a -/
theorem pe_slice {r : V → Option Int → Option Int → Hp → VK → Prop} (hr : SlR X r) (he : PE X e te) (hl : PO X lo tl) (hu : PO X hi th) : PE X (.Subscript e (.Slice lo hi none p2) pos) (tSl r te tl th) := by
  intro pins s σ H Q I h
  refine Subscript_ (thn (he pins s σ H _ I h) fun v s1 ⟨x, H1, I1, r1, q1⟩ => ?_)
  refine wpAny_Slice (thn (hl pins s1 σ H1 _ I1 q1) fun vl s2 ⟨l, H2, I2, pl, q2⟩ => thn (hu pins s2 σ H2 _ I2 q2) fun vu s3 ⟨u, H3, I3, pu, q3⟩ => ?_)
  rw [evalPart_none]
  refine wpAny_pure ?_
  have I4 : Inv X pins σ H3 { s3 with heap := s3.heap.push { cls := .type "slice", data := .fields #[vl, vu, .none] } } := I3.kept (t' := s3.toks) fun b ob q => Heap.get?_push_of_some _ q
  obtain ⟨T, id, hT, ht, hg⟩ := hr pins { s3 with heap := s3.heap.push { cls := .type "slice", data := .fields #[vl, vu, .none] } } σ H3 x v vl vu l u s3.heap.objs.size Q I4 r1 (Heap.IsSliceOf.new ..) pl pu q3
  show wpAny (model X.prog X.w) X.A (subscriptTail e (.Slice lo hi none p2) v (.ref s3.heap.objs.size)) (EP X pins σ Q) X.xe { s3 with heap := s3.heap.push { cls := .type "slice", data := .fields #[vl, vu, .none] } }
  exact tail_any (ops := [.ref s3.heap.objs.size, v]) ht hT hg (by with_unfolding_all rfl)

/-- the items of xs[lo:hi] -/
def cutV (xs : List V) (lo hi : Option Int) : List V := (xs.drop (HT.sIx xs.length 0 lo)).take (HT.sIx xs.length xs.length hi - HT.sIx xs.length 0 lo)
theorem cutV_length (xs : List V) (lo hi : Option Int) : (cutV xs lo hi).length ≤ xs.length := by
  unfold cutV
  rw [List.length_take, List.length_drop]
  omega
/-! ### t < u, t + u -/
end
end L2

namespace L2
open PySem PySem.Spec PyProof.Rows

/-! ### places -/
/-- the place that an index of any sign means -/
def ixN (n : Nat) (i : Int) : Option Nat := if 0 ≤ i then (if i < n then some i.toNat else none) else if -(n : Int) ≤ i then some (i + n).toNat else none
def atI {α : Type} (xs : List α) (i : Int) : Option α := (ixN xs.length i).bind fun j => xs[j]?
theorem ixN_seq {n : Nat} {i : Int} {j : Nat} (h : ixN n i = some j) : seqIndex? i n = some j ∧ j < n ∧ -(n : Int) ≤ i ∧ i < n := by
  unfold ixN at h
  by_cases h0 : 0 ≤ i
  · rw [if_pos h0] at h
    by_cases h1 : i < n
    · rw [if_pos h1] at h
      have e : i.toNat = j := Option.some.inj h
      exact ⟨by rw [seqIndex_of h0 h1, e], by omega, by omega, h1⟩
    · rw [if_neg h1] at h; cases h
  · rw [if_neg h0] at h
    by_cases h1 : -(n : Int) ≤ i
    · rw [if_pos h1] at h
      have e : (i + n).toNat = j := Option.some.inj h
      exact ⟨by rw [seqIndex_neg (by omega) h1, e], by omega, h1, by omega⟩
    · rw [if_neg h1] at h; cases h
theorem atI_get {α : Type} {xs : List α} {i : Int} {v : α} (h : atI xs i = some v) : ∃ j, seqIndex? i xs.length = some j ∧ xs[j]? = some v ∧ j < xs.length ∧ -(xs.length : Int) ≤ i ∧ i < xs.length := by
  unfold atI at h
  cases e : ixN xs.length i with
  | none => rw [e] at h; cases h
  | some j =>
    rw [e] at h
    obtain ⟨h1, h2, h3, h4⟩ := ixN_seq e
    exact ⟨j, h1, h, h2, h3, h4⟩
theorem atI_nat {α : Type} {xs : List α} {j : Nat} {v : α} (h : xs[j]? = some v) : atI xs (j : Int) = some v := by
  have hj : j < xs.length := (List.getElem?_eq_some_iff.mp h).1
  have e : ixN xs.length (j : Int) = some j := by
    unfold ixN
    rw [if_pos (by omega), if_pos (by omega)]; simp
  unfold atI; rw [e]; exact h
/-! ### what may be subscripted -/
/-- what stands as an index of a plain subscript -/
def PlainIx (b : Expr) : Prop := ∀ o i, subscripted b false o i = operate [o, i] (getItem o i)
/-- a subscript by values -/
def IxR (X : Cx) (r : R2) : Prop :=
  ∀ (value slice : Expr) (pins : List (Addr × Obj)) (s : Shared) (σ : St) (H : Hp) (x y : V) (v u : Value) (Q : VK), Inv X pins σ H s → RelV x v → RelV y u → r x y H Q →
    subscripted slice false v u = operate [v, u] (getItem v u) → wpAny (model X.prog X.w) X.A (subscriptTail value slice v u) (EP X pins σ Q) X.xe s
/-- a call of a builtin's method by values: the receiver, the arguments -/
def MtR (X : Cx) (id : String) (r : V → List V → Hp → VK → Prop) : Prop :=
  ∀ (pins : List (Addr × Obj)) (s : Shared) (σ : St) (H : Hp) (x : V) (xs : List V) (v : Value) (us : List Value) (Q : VK), Inv X pins σ H s → RelV x v → Vals xs us → r x xs H Q →
    wpAny (model X.prog X.w) X.A (call (.builtin id) (v :: us)) (EP X pins σ Q) X.xe s
section
variable {X : Cx} {a b : Expr} {ta tb : TE} {pos : Pos}
/-- a[b] -/
theorem pe_ix {r : R2} (hr : IxR X r) (ha : PE X a ta) (hb : PE X b tb) (hs : PlainIx b) : PE X (.Subscript a b pos) (tOp r ta tb) := by
  intro pins s σ H Q I h
  exact Subscript_ (binT ha hb I h fun v u s2 x y H2 I2 rx ry q => hr a b pins s2 σ H2 x y v u Q I2 rx ry q (hs _ _))

def rIxL (K : PySem.W.Frag) : R2 := fun x y H Q => ∃ p xs i v, x = .ref p ∧ y = .int i ∧ SqL K H p xs ∧ atI xs i = some v ∧ Q v H
def rIxT (K : PySem.W.Frag) : R2 := fun x y H Q => ∃ p xs i v, x = .ref p ∧ y = .int i ∧ SqT K H p xs ∧ atI xs i = some v ∧ Q v H
theorem ix_list : IxR X (rIxL X.K) := by
  intro value slice pins s σ H x y v u Q I rx ry h hs
  obtain ⟨p, xs, i, z, rfl, rfl, hq, he, q⟩ := h
  cases rx
  obtain ⟨t, rfl⟩ := ry
  obtain ⟨its, r, pl, hz⟩ := I.list hq
  obtain ⟨j, h1, h2, h3, h4, h5⟩ := atI_get he
  obtain ⟨w, ew, rw'⟩ := r.get h2
  have hl := r.length
  have hn := line63
  have fin : EP X pins σ Q w s := ⟨z, H, I, rw', q⟩
  by_cases h0 : 0 ≤ i
  · have hj : i.toNat = j := by
      rw [seqIndex_of h0 h5] at h1
      exact Option.some.inj h1
    exact item_listR pl.isList h0 (by omega) (by rw [hj]; simpa using ew) fin hs
  · have hj : (i + (its.toArray.size : Int)).toNat = j := by
      rw [seqIndex_neg (by omega) h4] at h1
      rw [List.size_toArray, ← hl]
      exact Option.some.inj h1
    exact subscriptTail_builtinR (x := w) pl.isList.typeIs slot_list_getitem.lookup
      (wpAny_getItem_list_neg (Q := fun r s' => r = w ∧ EP X pins σ Q r s') pl.isList (by omega) (by rw [List.size_toArray] <;> omega) (by omega) (by rw [hj]; simpa using ew) ⟨rfl, fin⟩) hs
theorem ix_tup : IxR X (rIxT X.K) := by
  intro value slice pins s σ H x y v u Q I rx ry h hs
  obtain ⟨p, xs, i, z, rfl, rfl, hq, he, q⟩ := h
  cases rx
  obtain ⟨t, rfl⟩ := ry
  obtain ⟨its, r, pl, hz⟩ := I.tuple hq
  obtain ⟨j, h1, h2, h3, h4, h5⟩ := atI_get he
  obtain ⟨w, ew, rw'⟩ := r.get h2
  have hl := r.length
  have hn := line63
  have fin : EP X pins σ Q w s := ⟨z, H, I, rw', q⟩
  exact subscriptTail_builtinR (x := w) pl.typeIs slot_tuple_getitem.lookup
    (getItem_tuple (j := j) (Q := fun r s' => r = w ∧ EP X pins σ Q r s') pl (by omega) (by omega) (by rw [List.size_toArray, ← hl]; exact h1) (by simpa using ew) ⟨rfl, fin⟩) hs
/-! ### xs[i] = v, any sign -/
/-! ### slices -/
theorem slice_bounds (lo hi : Option Int) (n : Nat) : (sliceBounds lo hi none n).1 = ((HT.sIx n 0 lo : Nat) : Int) ∧ (sliceBounds lo hi none n).2.1 = ((HT.sIx n n hi : Nat) : Int) ∧ (sliceBounds lo hi none n).2.2 = 1 := by
  refine ⟨?_, ?_, rfl⟩
  · cases lo with
    | none => simp [sliceBounds, HT.sIx]
    | some i =>
      simp only [sliceBounds, HT.sIx, Option.getD_none, show (1 : Int) > 0 by decide, if_true]
      by_cases h : i < 0
      · simp only [h, if_true] <;> omega
      · simp only [h, if_false] <;> omega
  · cases hi with
    | none => simp [sliceBounds, HT.sIx]
    | some i =>
      simp only [sliceBounds, HT.sIx, Option.getD_none, show (1 : Int) > 0 by decide, if_true]
      by_cases h : i < 0
      · simp only [h, if_true] <;> omega
      · simp only [h, if_false] <;> omega
theorem slicePick_cut (its : List Value) (lo hi : Option Int) : slicePick its.toArray lo hi none = ((its.drop (HT.sIx its.length 0 lo)).take (HT.sIx its.length its.length hi - HT.sIx its.length 0 lo)).toArray := by
  obtain ⟨h1, h2, h3⟩ := slice_bounds lo hi its.toArray.size
  unfold slicePick
  rw [h1, h2, h3]
  simp only [sliceRange_one, pick_run, List.size_toArray] <;> rfl
/-- xs[lo:hi] of a list: a new list -/
def rSlL (K : PySem.W.Frag) : V → Option Int → Option Int → Hp → VK → Prop := fun x lo hi H Q => ∃ a xs, x = .ref a ∧ SqL K H a xs ∧ ∀ p, H p = none → Q (.ref p) (upd H p (.lst (cutV xs lo hi)))
theorem sl_list : SlR X (rSlL X.K) := by
  intro pins s σ H x v vl vu lo hi sl Q I rx hs pl pu h
  obtain ⟨a, xs, rfl, hx, q⟩ := h
  cases rx
  obtain ⟨its, r, ht, hz⟩ := I.list hx
  have hlen := r.length
  refine ⟨"list", _, slot_list_getitem.lookup, ht.isList.typeIs, ?_⟩
  refine wpAny_getItem_list_slice ht.isList hs pl pu .none (by simp) ?_ (by rw [List.size_toArray] <;> omega)
  rw [slicePick_cut, ← hlen]
  refine ⟨.ref s.heap.objs.size, _, I.laid (t' := s.toks) (o := .lst (cutV xs lo hi)) (fun b ob q => Heap.get?_push_of_some _ q) (Nat.le_refl _) ?_, rfl, q _ (I.hok.fresh (Nat.le_refl _))⟩
  exact ⟨Nat.le_trans (cutV_length xs lo hi) hz, _, 0, (r.drop (HT.sIx xs.length 0 lo)).take (HT.sIx xs.length xs.length hi - HT.sIx xs.length 0 lo), Heap.get?_push_size _ rfl⟩

/-! ### in, not in: flat items -/
/-! ### len, list(x), tuple(x) of any list or tuple that is read -/
theorem call_len_seq : CallR X (.builtin "len") (fun xs H Q => ∃ p ys, xs = [.ref p] ∧ (SqL X.K H p ys ∨ SqT X.K H p ys) ∧ Q (.int ys.length) H) := by
  intro pins s σ H xs us Q I r h
  obtain ⟨p, ys, rfl, hq, q⟩ := h
  obtain ⟨u, rfl, rx⟩ := vals1 r
  cases rx
  have hn := line63
  rcases hq with hq | hq
  · obtain ⟨its, r', pl, hz⟩ := I.list hq
    have hlen := r'.length
    exact Calls.call_len_list pl.isList (by simp only [List.size_toArray] <;> omega) ⟨.int ys.length, H, I.tok _, ⟨s.toks + 1, by rw [List.size_toArray, hlen]⟩, q⟩
  · obtain ⟨its, r', pl, hz⟩ := I.tuple hq
    have hlen := r'.length
    exact len_tuple pl (by simp only [List.size_toArray] <;> omega) ⟨.int ys.length, H, I.tok _, ⟨s.toks + 1, by rw [List.size_toArray, hlen]⟩, q⟩
/-! ### the call of a builtin's method: o.m(..) -/
/-- the value is of that builtin type -/
def tyV (K : PySem.W.Frag) (T : String) (x : V) (H : Hp) : Prop := match x with
  | .str _ => T = "str"
  | .int _ => T = "int"
  | .ref p => (T = "list" ∧ ∃ xs, SqL K H p xs) ∨ (T = "tuple" ∧ ∃ o, K.lookup p = some o ∧ o.cls = .type "tuple" ∧ o.dict = none) ∨
      (T = "dict" ∧ ((∃ kvs, H p = some (.dK kvs)) ∨ ∃ kvs, H p = some (.dT kvs))) ∨ (T = "set" ∧ ∃ S n, H p = some (.set S n))
  | _ => False
theorem tyV_is {pins : List (Addr × Obj)} {σ : St} {H : Hp} {s : Shared} {T : String} {x : V} {v : Value} (I : Inv X pins σ H s) (r : RelV x v) (ty : tyV X.K T x H) :
    s.TypeIs v T ∧ ∀ a, v = .ref a → ∃ ob, s.heap.get? a = some ob ∧ ob.dict = none := by
  cases x with
  | str z =>
    obtain ⟨t, rfl⟩ := r
    cases (show T = "str" from ty)
    exact ⟨typeIs_str s z t, fun _ e => nomatch e⟩
  | int i =>
    obtain ⟨t, rfl⟩ := r
    cases (show T = "int" from ty)
    exact ⟨typeIs_int s i t, fun _ e => nomatch e⟩
  | ref p =>
    cases r
    rcases ty with ⟨rfl, xs, hq⟩ | ⟨rfl, o, hk, hc, hd⟩ | ⟨rfl, hk⟩ | ⟨rfl, S, n, hk⟩
    · obtain ⟨its, _, pl, _⟩ := I.list hq
      refine ⟨pl.isList.typeIs, fun a e => ?_⟩
      cases e
      obtain ⟨o, n, e, c, hd, _⟩ := pl
      exact ⟨o, e, hd⟩
    · refine ⟨⟨o, I.kIn p o hk, hc⟩, fun a e => ?_⟩
      cases e
      exact ⟨o, I.kIn _ o hk, hd⟩
    · have z : ∃ o, s.heap.get? p = some o ∧ o.ExactDict := by
        rcases hk with ⟨kvs, hk⟩ | ⟨kvs, hk⟩
        · obtain ⟨_, _, _, _, o, _, _, e, ex, _⟩ := I.hok p _ hk
          exact ⟨o, e, ex⟩
        · obtain ⟨_, _, _, _, o, _, _, e, ex, _⟩ := I.hok p _ hk
          exact ⟨o, e, ex⟩
      obtain ⟨o, e, ex⟩ := z
      refine ⟨⟨o, e, ex.1⟩, fun a e2 => ?_⟩
      cases e2
      exact ⟨o, e, ex.2.1⟩
    · obtain ⟨o, _, _, _, e, ex, _⟩ := I.hok p _ hk
      refine ⟨⟨o, e, ex.1⟩, fun a e2 => ?_⟩
      cases e2
      exact ⟨o, e, ex.2.1⟩
  | _ => exact False.elim ty
def tBM0 (K : PySem.W.Frag) (T : String) (r : V → List V → Hp → VK → Prop) (to : TE) : TE := fun σ H Q => to σ H fun x H1 => tyV K T x H1 ∧ r x [] H1 Q
def tBM (K : PySem.W.Frag) (T : String) (r : V → List V → Hp → VK → Prop) (to : TE) (t : TA) : TE := fun σ H Q => to σ H fun x H1 => tyV K T x H1 ∧ t σ H1 fun xs H2 => r x xs H2 Q
variable {o e : Expr} {es : List Expr} {to : TE} {t : TA} {name : Str} {apos cpos : Pos} {T id : String} {r : V → List V → Hp → VK → Prop}
theorem pe_bm0 (pa : PlainAttrs T) (slot : Slot T name id) (hty : typeOf (.builtin id) = pure (.type "method_descriptor")) (hm : MtR X id r) (ho : PE X o to)
    (hbase : attributeBase o name X.env (eval o X.env) = eval o X.env := by rfl) (hline : (apos.endLine == cpos.line) = true := by rfl) : PE X (.Call (.Attribute o name apos) [] [] cpos) (tBM0 X.K T r to) := by
  intro pins s σ H Q I h
  refine wpAny_Call_method0_late hbase hline (thn (ho pins s σ H _ I h) fun v s1 ⟨x, H1, I1, r1, ty, q1⟩ => ?_)
  obtain ⟨h1, h2⟩ := tyV_is I1 r1 ty
  exact ⟨T, id, pa, slot, hty, h1, h2, Calls.callWith_builtin rfl (PySem.evalArgs_none (hm pins s1 σ H1 x [] v [] Q I1 r1 .nil q1))⟩
theorem pe_bm (pa : PlainAttrs T) (slot : Slot T name id) (hty : typeOf (.builtin id) = pure (.type "method_descriptor")) (hm : MtR X id r) (ho : PE X o to) (ha : PA X (e :: es) t)
    (hbase : attributeBase o name X.env (eval o X.env) = eval o X.env := by rfl)
    (hfew : ((backTo cpos (starEach (e :: es) X.env)).all (fun x => !x.1) && (backToKw cpos (keywordEach [] X.env)).all (fun x => x.1.isSome)
      && decide ((e :: es).length + ([] : List Keyword).length + (if ([] : List Keyword).isEmpty then 0 else 1) < 30)) = true := by rfl)
    (hline : (apos.endLine == cpos.line) = true := by rfl) (hs : starEach (e :: es) X.env = (false, eval e X.env) :: starEach es X.env := by rfl) (hplain : (backTo cpos (starEach es X.env)).any (·.1) = false := by rfl) :
    PE X (.Call (.Attribute o name apos) (e :: es) [] cpos) (tBM X.K T r to t) := by
  intro pins s σ H Q I h
  refine wpAny_Call_method_late hbase hfew hline rfl (thn (ho pins s σ H _ I h) fun v s1 ⟨x, H1, I1, r1, ty, q1⟩ => ?_)
  obtain ⟨h1, h2⟩ := tyV_is I1 r1 ty
  refine ⟨T, id, pa, slot, hty, h1, h2, ?_⟩
  have hA := ha cpos pins s1 σ H1 _ I1 q1
  rw [hs] at hA ⊢
  refine Calls.callWith_builtin (by show (false || (backTo cpos (starEach es X.env)).any (·.1)) = false; rw [hplain] <;> rfl) (Calls.evalArgs_plain ?_)
  exact thn hA fun us s2 ⟨vs, H2, I2, r2, q2⟩ => hm pins s2 σ H2 x vs v us Q I2 r1 r2 q2
/- xs.append(e), list.index on a module's tuple .. are MtR facts of 06m -/
end
end L2

namespace L2
open PySem PySem.Spec PyProof.Rows

def MtM (X : Cx) (id : String) (r : V → List V → Hp → VK → Prop) : Prop :=
  ∀ (pins : List (Addr × Obj)) (s : Shared) (σ : St) (H : Hp) (x : V) (xs : List V) (v : Value) (us : List Value) (Q : VK), Inv X pins σ H s → RelV x v → Vals xs us → r x xs H Q →
    wpAny (model X.prog X.w) X.A (call (.builtin id) (v :: us)) (EP X pins σ Q) X.xe s

/-! ### lists of values -/
theorem Vals.one : ∀ {x : V} {us : List Value}, Vals [x] us → ∃ u, us = [u] ∧ RelV x u
  | _, _, .cons r .nil => ⟨_, rfl, r⟩
theorem Vals.zero : ∀ {us : List Value}, Vals [] us → us = []
  | _, .nil => rfl
theorem Vals.dropLast {xs : List V} {us : List Value} (h : Vals xs us) : Vals xs.dropLast us.dropLast := by
  induction h with
  | nil => exact .nil
  | cons r t ih =>
    cases t with
    | nil => exact .nil
    | cons q t' => exact .cons r ih
theorem erase_last {α : Type} (l : List α) : l.eraseIdx (l.length - 1) = l.dropLast := by
  induction l with
  | nil => rfl
  | cons a r ih =>
    cases r with
    | nil => rfl
    | cons b r =>
      have e : (a :: b :: r).length - 1 = ((b :: r).length - 1) + 1 := by
        have h1 : (a :: b :: r).length = r.length + 2 := rfl
        have h2 : (b :: r).length = r.length + 1 := rfl
        omega
      rw [e, List.eraseIdx_cons_succ, ih]
      all_goals rfl
section
variable {X : Cx} {pins : List (Addr × Obj)} {σ : St} {H : Hp} {s : Shared} {l b : Addr} {xs ys zs : List V}

/-! ### the two steps: a tracked list is rewritten, a new list is laid -/
theorem Inv.lset {its its' : List Value} {n : Nat} {f : Array Value → Array Value} {t' : Nat} (I : Inv X pins σ H s) (hH : H l = some (.lst xs))
    (e : s.heap.get? l = some { cls := .type "list", data := .seq its.toArray n }) (hf : f its.toArray = its'.toArray) (hv : Vals ys its') (hz : ys.length ≤ sizeLine) :
    Inv X pins σ (upd H l (.lst ys)) { s with heap := s.heap.update l (Obj.mapSeq f), toks := t' } := by
  have q := PySem.IsL.update e f
  rw [hf] at q
  refine I.write (x := l) (e := l) (by rw [hH]; exact trivial) (.inl rfl) (fun b' u hb hu => (Heap.get?_update_other s.heap (Obj.mapSeq f) (Ne.symm hb)).trans hu) ⟨_, q⟩ ?_
  exact ⟨hz, its', _, hv, q⟩
theorem Inv.lstM (I : Inv X pins σ H s) (hH : H l = some (.lst xs)) : xs.length ≤ sizeLine ∧ ∃ (its : List Value) (n : Nat), Vals xs its ∧ xs.length = its.length ∧ s.heap.get? l = some { cls := .type "list", data := .seq its.toArray n } := by
  obtain ⟨z, its, n, r, e⟩ := I.hok l _ hH
  exact ⟨z, its, n, r, r.length, e⟩

theorem notLongL {n : Nat} (h : n ≤ sizeLine) : Builtin.List.listTooLong n = false := by
  unfold Builtin.List.listTooLong
  exact decide_eq_false (by omega)
end

section
variable {X : Cx}

/-! ### methods -/
def rAppend : V → List V → Hp → VK → Prop := fun x vs H Q => ∃ l xs y, x = .ref l ∧ vs = [y] ∧ H l = some (.lst xs) ∧ xs.length < sizeLine ∧ Q .non (upd H l (.lst (xs ++ [y])))
theorem mt_append : MtM X "list.append" rAppend := by
  intro pins s σ H x vs v us Q I rx rv h
  obtain ⟨l, xs, y, rfl, rfl, hH, hz, q⟩ := h
  cases rx
  obtain ⟨u, rfl, ru⟩ := rv.one
  obtain ⟨z, its, n, r, hl, e⟩ := I.lstM hH
  refine call_meets F.slot_list_append ⟨_, e, rfl⟩ F.entry_list_append (F.args_list_append_2 _ _) (PySem.list_append l its.toArray n u (by rw [List.size_toArray]; omega)) ⟨e, ?_⟩
  refine ⟨.non, _, I.lset (its' := its ++ [u]) hH e (by simp) (r.append (.cons ru .nil)) ?_, rfl, q⟩
  rw [List.length_append, List.length_singleton]
  omega

def rExtend : V → List V → Hp → VK → Prop := fun x vs H Q => ∃ l b xs zs, x = .ref l ∧ vs = [.ref b] ∧ H l = some (.lst xs) ∧ H b = some (.lst zs) ∧ xs.length + zs.length ≤ sizeLine ∧ Q .non (upd H l (.lst (xs ++ zs)))
theorem mt_extend : MtM X "list.extend" rExtend := by
  intro pins s σ H x vs v us Q I rx rv h
  obtain ⟨l, b, xs, zs, rfl, rfl, hH, hB, hz, q⟩ := h
  cases rx
  obtain ⟨u, rfl, ru⟩ := rv.one
  cases ru
  obtain ⟨z, its, n, r, hl, e⟩ := I.lstM hH
  obtain ⟨z2, its2, n2, r2, hl2, e2⟩ := I.lstM hB
  have hsz : its.toArray.size + its2.toArray.size ≤ sizeLine := by rw [List.size_toArray, List.size_toArray]; omega
  have hlong : ¬ (!its.toArray.isEmpty && Builtin.List.listTooLong (its.toArray.size + its2.toArray.size)) = true := by
    rw [notLongL hsz, Bool.and_false]
    exact Bool.false_ne_true
  refine call_meets F.slot_list_extend ⟨_, e, rfl⟩ F.entry_list_extend (F.args_list_extend_2 _ _)
    (AutoSeq1.list_extend_list_list_0 l its.toArray n b its2.toArray n2 hlong (by rw [List.size_toArray]; omega) (by omega)) ⟨e, e2, ?_⟩
  refine ⟨.non, _, I.lset (its' := its ++ its2) hH e (by simp) (r.append r2) ?_, rfl, q⟩
  rw [List.length_append]
  omega

def rPop : V → List V → Hp → VK → Prop := fun x vs H Q => ∃ l xs y, x = .ref l ∧ vs = [] ∧ H l = some (.lst xs) ∧ xs[xs.length - 1]? = some y ∧ Q y (upd H l (.lst xs.dropLast))
theorem mt_pop : MtM X "list.pop" rPop := by
  intro pins s σ H x vs v us Q I rx rv h
  obtain ⟨l, xs, y, rfl, rfl, hH, hy, q⟩ := h
  cases rx
  have hus := rv.zero
  subst hus
  obtain ⟨z, its, n, r, hl, e⟩ := I.lstM hH
  obtain ⟨u, hu, ru⟩ := r.get hy
  have hy' : its.toArray[its.toArray.size - 1]? = some u := by
    show its.toArray[its.length - 1]? = some u
    rw [← Array.getElem?_toList, ← hl]
    exact hu
  refine call_meets F.slot_list_pop ⟨_, e, rfl⟩ F.entry_list_pop (F.args_list_pop_1 _) (MeetsSeq.list_pop_last l its.toArray n u hy' (by rw [List.size_toArray]; omega)) ⟨e, ?_⟩
  refine ⟨y, _, I.lset (its' := its.dropLast) hH e ?_ r.dropLast ?_, ru, q⟩
  · show its.toArray.eraseIdxIfInBounds (its.toArray.size - 1) = its.dropLast.toArray
    rw [List.size_toArray, List.eraseIdxIfInBounds_toArray, erase_last]
  · rw [List.length_dropLast]
    omega

/-! ### list + list, list += list, list * int -/
/-! ### del xs[i] -/
end

/-! ### xs[a:b] = ys -/
section
variable {prog : Program} {w : World} {A : Around} {E : Value → Shared → Prop} {s : Shared}
end

section
variable {X : Cx}
end
end L2

namespace L2
open PySem PySem.Spec PyProof.Rows

theorem Vals.ints : ∀ {ns : List Int} {us : List Value}, Vals (ns.map V.int) us → IntsAre us ns
  | [], us, h => by
    rw [List.map_nil] at h
    cases h
    exact IntsAre.nil
  | n :: ns, us, h => by
    rw [List.map_cons] at h
    cases h with
    | cons r t =>
      obtain ⟨k, rfl⟩ := r
      exact IntsAre.cons n k (Vals.ints t)
theorem Vals.ref1 {a : Addr} {us : List Value} (r : Vals [V.ref a] us) : us = [Value.ref a] := by
  cases r with
  | cons r t =>
    cases t
    cases r
    rfl
/-! ### the library's walks over a list of ints, kept objects alone -/
section
variable {prog : Program} {w : World} {A : Around} {E : Value → Shared → Prop} {s : Shared} {l : Addr} {its : List Value} {ns : List Int} {Q : Value → Shared → Prop}
theorem sum_raw (hh : A.handled = none) (hl : s.heap.IsList l its.toArray) (hi : IntsAre its ns)
    (h : ∀ h' tk t', (∀ b o, s.heap.get? b = some o → h'.get? b = some o) → Q (.int ns.sum t') { s with heap := h', toks := tk }) : wpAny (model prog w) A (call (.builtin "sum") [.ref l]) Q E s := by
  obtain ⟨xs, e⟩ := hi.allInts.items
  have hn : numsOf (intItems xs).toList = ns := by rw [← e]; exact hi.numsOf
  rw [nums_intItems] at hn
  rw [e] at hl
  refine PySem.sum_intListG hh hl fun h' tk t' hk => ?_
  have := h h' tk t' hk
  rw [preSum_eq, List.take_of_length_le (by simp), hn]; exact this
end

/-! ### the calls, by values (CallR of 03t; MtR of 06l) -/
section
variable {X : Cx}
/-- sum(xs) of a list of ints -/
def rSum (K : PySem.W.Frag) : List V → Hp → VK → Prop := fun vs H Q => ∃ (a : Addr) (ns : List Int), vs = [V.ref a] ∧ SqL K H a (ns.map V.int) ∧ Q (.int ns.sum) H
theorem cr_sum (hc : X.calm = true) : CallR X (.builtin "sum") (rSum X.K) := by
  intro pins s σ H vs us Q I r h
  obtain ⟨a, ns, rfl, hs, q⟩ := h
  obtain ⟨its, rv, hl, _⟩ := I.list hs
  rw [Vals.ref1 r]
  exact sum_raw (I.ok.hd hc) hl.isList rv.ints fun h' tk t' hk => ⟨.int _, H, I.kept hk, ⟨_, rfl⟩, q⟩
/-! sorted, sort (fewer than 64 items: the library's own bound) -/
end

/-! ### list.index, flat items -/
section
variable {X : Cx}
end

/-! ### type(x) of an own instance; is, is not of a module's class -/
section
variable {X : Cx}
end

/-! ### any(xs), all(xs) of a list of bools -/
section
variable {X : Cx}
end

/-! ### == and != of data at any depth: none, bools, ints, texts, lists, tuples -/
mutual
inductive Dp (K : PySem.W.Frag) (H : Hp) : V → PyData → Prop
  | non : Dp K H .non .none
  | bl (b : Bool) : Dp K H (.bl b) (.bool b)
  | int (i : Int) : Dp K H (.int i) (.int i)
  | str (x : Str) : Dp K H (.str x) (.str x)
  | lst {a : Addr} {xs : List V} {ds : List PyData} : SqL K H a xs → DpAll K H xs ds → Dp K H (.ref a) (.list ds)
  | tup {a : Addr} {xs : List V} {ds : List PyData} : SqT K H a xs → DpAll K H xs ds → Dp K H (.ref a) (.tuple ds)
inductive DpAll (K : PySem.W.Frag) (H : Hp) : List V → List PyData → Prop
  | nil : DpAll K H [] []
  | cons {v : V} {vs : List V} {d : PyData} {ds : List PyData} : Dp K H v d → DpAll K H vs ds → DpAll K H (v :: vs) (d :: ds)
end
section
variable {X : Cx} {pins : List (Addr × Obj)} {σ : St} {H : Hp} {s : Shared}
end
section
variable {X : Cx}
end
end L2

namespace L2
open PySem PySem.Spec PyProof.Rows
abbrev CellAt (h : Heap) (c : Addr) (v : Option Value) : Prop := h.IsCell c v
def relS (scope sc : Scope) : Scope :=
  { scope with names := scope.names.map fun (n, k) => if (k == .free && sc.kind == .function && sc.names.lookup n == some .cell) then (n, .cell) else (n, k) }

def cloFrom (cells : List (Str × Addr)) : List (Str × NameKind) → List (Str × Addr) → List (Str × Addr)
  | [], acc => acc
  | (n, k) :: r, acc => if k == .free then cloFrom cells r ((n, (cells.lookup n).getD 0) :: acc) else cloFrom cells r acc

theorem closure_loop (env : Env) (f : Str × NameKind → List (Str × Addr) → Sem (ForInStep (List (Str × Addr))))
    (hf : ∀ n k c, f (n, k) c = if k == .free then (do let a ← cellOf env n; pure (.yield ((n, a) :: c))) else pure (.yield c)) :
    ∀ (names : List (Str × NameKind)) (acc : List (Str × Addr)), (∀ y ∈ names, y.2 = .free → ∃ c, env.cells.lookup y.1 = some c) → forIn names acc f = pure (cloFrom env.cells names acc)
  | [], acc, _ => by rw [List.forIn_nil]; rfl
  | (n, k) :: r, acc, h => by
    rw [List.forIn_cons, hf]
    have ih := fun acc => closure_loop env f hf r acc fun y hy => h y (List.mem_cons_of_mem _ hy)
    unfold cloFrom
    by_cases hk : (k == NameKind.free) = true
    · rw [if_pos hk, if_pos hk]
      obtain ⟨c, hc⟩ := h (n, k) List.mem_cons_self (by simpa using hk)
      have e : cellOf env n = pure c := by unfold cellOf; rw [hc]
      rw [e]
      have e2 : (env.cells.lookup n).getD 0 = c := by rw [hc]; rfl
      rw [e2]
      exact ih _
    · rw [if_neg hk, if_neg hk]
      exact ih _
theorem closure_ok {scope : Scope} {env : Env} (h : ∀ y ∈ scope.names, y.2 = .free → ∃ c, env.cells.lookup y.1 = some c) : closureFor scope env = pure (cloFrom env.cells scope.names []) := by
  simp only [closureFor]
  rw [closure_loop env _ (fun n k c => rfl) scope.names [] h]
  rfl

theorem mem_lookup {α : Type} : ∀ {l : List (Str × α)} {n : Str} {c : α}, (n, c) ∈ l → ∃ c', l.lookup n = some c'
  | (k, v) :: r, n, c, h => by
    rw [List.lookup_cons]
    cases hb : n == k with
    | true => exact ⟨_, rfl⟩
    | false =>
      rcases List.mem_cons.mp h with e | h
      · cases e; simp at hb
      · exact mem_lookup h

theorem cloFrom_mem {cells : List (Str × Addr)} : ∀ {names : List (Str × NameKind)} {acc : List (Str × Addr)} {n : Str} {c : Addr}, (n, c) ∈ cloFrom cells names acc → (n, c) ∈ acc ∨ ((n, .free) ∈ names ∧ c = (cells.lookup n).getD 0)
  | [], _, _, _, h => .inl h
  | (m, k) :: r, acc, n, c, h => by
    unfold cloFrom at h
    split at h
    · rename_i hk
      have hk : k = .free := by simpa using hk
      rcases cloFrom_mem h with h | ⟨h1, h2⟩
      · rcases List.mem_cons.mp h with e | h
        · cases e; exact .inr ⟨hk ▸ List.mem_cons_self, rfl⟩
        · exact .inl h
      · exact .inr ⟨List.mem_cons_of_mem _ h1, h2⟩
    · rcases cloFrom_mem h with h | ⟨h1, h2⟩
      · exact .inl h
      · exact .inr ⟨List.mem_cons_of_mem _ h1, h2⟩
theorem cloFrom_acc {cells : List (Str × Addr)} : ∀ {names : List (Str × NameKind)} {acc : List (Str × Addr)} {p : Str × Addr}, p ∈ acc → p ∈ cloFrom cells names acc
  | [], _, _, h => h
  | (m, k) :: r, acc, p, h => by
    unfold cloFrom
    split
    · exact cloFrom_acc (List.mem_cons_of_mem _ h)
    · exact cloFrom_acc h
theorem cloFrom_has {cells : List (Str × Addr)} : ∀ {names : List (Str × NameKind)} {acc : List (Str × Addr)} {n : Str}, (n, .free) ∈ names → (n, (cells.lookup n).getD 0) ∈ cloFrom cells names acc
  | (m, k) :: r, acc, n, h => by
    unfold cloFrom
    rcases List.mem_cons.mp h with e | h
    · cases e
      exact cloFrom_acc List.mem_cons_self
    · split
      · exact cloFrom_has h
      · exact cloFrom_has h

theorem cells_mem : ∀ {names : List (Str × NameKind)} {h : Heap} {acc : List (Str × Addr)} {x : Str} {c : Addr}, (x, c) ∈ cellsFrom h.objs.size names acc →
    (x, c) ∈ acc ∨ ((x, .cell) ∈ names ∧ h.objs.size ≤ c ∧ CellAt (pushCells h names) c none)
  | [], _, _, _, _, h => .inl h
  | (n, k) :: r, h, acc, x, c, hm => by
    unfold cellsFrom at hm
    unfold pushCells
    split at hm
    · rename_i hk
      rw [if_pos hk]
      have hk : k = .cell := by simpa using hk
      rw [← Heap.size_push h { cls := .type "cell", data := .cell none }] at hm
      rcases cells_mem hm with hm | ⟨h1, h2, h3⟩
      · rcases List.mem_cons.mp hm with e | hm
        · cases e
          exact .inr ⟨hk ▸ List.mem_cons_self, Nat.le_refl _, _, pushCells_keeps r _ _ _ (Heap.get?_push_size _ rfl), rfl⟩
        · exact .inl hm
      · rw [Heap.size_push] at h2
        exact .inr ⟨List.mem_cons_of_mem _ h1, Nat.le_of_succ_le h2, h3⟩
    · rename_i hk
      rw [if_neg hk]
      rcases cells_mem hm with hm | ⟨h1, h2, h3⟩
      · exact .inl hm
      · exact .inr ⟨List.mem_cons_of_mem _ h1, h2, h3⟩
theorem cells_acc : ∀ {names : List (Str × NameKind)} {n : Nat} {acc : List (Str × Addr)} {p : Str × Addr}, p ∈ acc → p ∈ cellsFrom n names acc
  | [], _, _, _, h => h
  | (m, k) :: r, n, acc, p, h => by
    unfold cellsFrom
    split
    · exact cells_acc (List.mem_cons_of_mem _ h)
    · exact cells_acc h
theorem cells_has : ∀ {names : List (Str × NameKind)} {n : Nat} {acc : List (Str × Addr)} {x : Str}, (x, .cell) ∈ names → ∃ c, (x, c) ∈ cellsFrom n names acc
  | (m, k) :: r, n, acc, x, h => by
    unfold cellsFrom
    rcases List.mem_cons.mp h with e | h
    · cases e
      exact ⟨n, cells_acc List.mem_cons_self⟩
    · split
      · exact cells_has h
      · exact cells_has h
theorem cells_inj : ∀ {names : List (Str × NameKind)} {h : Heap} {acc : List (Str × Addr)} {x y : Str} {c : Addr}, (∀ p ∈ acc, p.2 < h.objs.size) → (∀ x y c, (x, c) ∈ acc → (y, c) ∈ acc → x = y) →
    (x, c) ∈ cellsFrom h.objs.size names acc → (y, c) ∈ cellsFrom h.objs.size names acc → x = y
  | [], _, _, _, _, _, _, hi, h1, h2 => hi _ _ _ h1 h2
  | (n, k) :: r, h, acc, x, y, c, hl, hi, h1, h2 => by
    unfold cellsFrom at h1 h2
    split at h1
    · rename_i hk
      rw [if_pos hk] at h2
      rw [← Heap.size_push h { cls := .type "cell", data := .cell none }] at h1 h2
      refine cells_inj (h := h.push _) (fun p hp => ?_) (fun x y c a b => ?_) h1 h2
      · rw [Heap.size_push]
        rcases List.mem_cons.mp hp with rfl | hp
        · exact Nat.lt_succ_self _
        · exact Nat.lt_succ_of_lt (hl p hp)
      · rcases List.mem_cons.mp a with e | a <;> rcases List.mem_cons.mp b with e' | b
        · cases e; cases e'; rfl
        · cases e; exact absurd (hl _ b) (Nat.lt_irrefl _)
        · cases e'; exact absurd (hl _ a) (Nat.lt_irrefl _)
        · exact hi _ _ _ a b
    · rename_i hk
      rw [if_neg hk] at h2
      exact cells_inj hl hi h1 h2

theorem newEnv_comp {M : Model} {A : Around} {E : Value → Shared → Prop} {s : Shared} {scope : Scope} {globals : Addr} {closure : List (Str × Addr)} {qual : Str} {func : Option Addr} {code : Value} {around : Env} {builtins : Addr} {Q : Env → Shared → Prop}
    (h : Q (newEnv scope s.heap.objs.size globals (cellsFrom (s.heap.objs.size + 1) scope.names closure) qual func code (some around) builtins)
      { s with heap := pushCells (s.heap.push { cls := .type "dict", data := .dict #[] }) scope.names }) :
    wpAny M A (newFunctionEnv scope globals closure [] qual func code (some around) builtins) Q E s := by
  simp only [newFunctionEnv, Option.isSome_some, if_true]
  refine wpAny_bind (wpAny_alloc ?_)
  refine wpAny_bind (wpAny_layCells _ (fun n k c => rfl) scope.names closure _ _ ?_)
  rw [show ({ s with heap := s.heap.push { cls := .type "dict", data := .dict #[] } } : Shared).heap.objs.size = s.heap.objs.size + 1 from Heap.size_push ..]
  rw [List.forIn_nil]
  exact wpAny_bind (wpAny_pure (wpAny_pure h))

/-- every name of the written scope, in the scope that runs -/
theorem lookup_relS {sc : Scope} : ∀ {names : List (Str × NameKind)} {x : Str} {k : NameKind},
    (names.map fun (n, k) => if (k == NameKind.free && sc.kind == .function && sc.names.lookup n == some .cell) then (n, NameKind.cell) else (n, k)).lookup x = some k →
    ∃ k', names.lookup x = some k' ∧ (k = k' ∨ (k' = .free ∧ k = .cell))
  | [], _, _, h => by simp at h
  | (n, k₀) :: r, x, k, h => by
    have ih := @lookup_relS sc r x k
    have h' : List.lookup x ((if (k₀ == NameKind.free && sc.kind == .function && sc.names.lookup n == some .cell) = true then (n, NameKind.cell) else (n, k₀)) :: (r.map _)) = some k := h
    cases hx : x == n with
    | true =>
      simp only [List.lookup_cons, hx]
      by_cases hc : (k₀ == NameKind.free && sc.kind == .function && sc.names.lookup n == some .cell) = true
      · rw [if_pos hc] at h'
        simp only [List.lookup_cons, hx] at h'
        cases h'
        simp only [Bool.and_eq_true, beq_iff_eq] at hc
        exact ⟨k₀, rfl, .inr ⟨hc.1.1, rfl⟩⟩
      · rw [if_neg hc] at h'
        simp only [List.lookup_cons, hx] at h'
        cases h'
        exact ⟨_, rfl, .inl rfl⟩
    | false =>
      simp only [List.lookup_cons, hx]
      by_cases hc : (k₀ == NameKind.free && sc.kind == .function && sc.names.lookup n == some .cell) = true
      · rw [if_pos hc] at h'
        simp only [List.lookup_cons, hx] at h'
        exact ih h'
      · rw [if_neg hc] at h'
        simp only [List.lookup_cons, hx] at h'
        exact ih h'
/-- the names of a comprehension's block: its own (with their places in N), or captured -/
structure BlkOk (N : List Str) (sc scope : Scope) (own : List (Str × Nat)) : Prop where
  kind : scope.kind = .function
  uniq : ∀ y ∈ scope.names, scope.names.lookup y.1 = some y.2
  ix : ∀ p ∈ own, N[p.2]? = some p.1
  free : ∀ y ∈ scope.names, y.2 = .free → sc.names.lookup y.1 = some .cell ∨ sc.names.lookup y.1 = some .free
  own : ∀ y ∈ scope.names, y.2 = .local ∨ y.2 = .cell → y.1 ∈ own.map (·.1) ∨ y.1 ∉ N
/-- the slots of the block's own names forgotten -/
def wipe (σ : St) : List Nat → St
  | [] => σ
  | v :: vs => (wipe σ vs).set v none
theorem wipe_length (σ : St) : ∀ vs : List Nat, (wipe σ vs).length = σ.length
  | [] => rfl
  | v :: vs => by unfold wipe; rw [List.length_set, wipe_length σ vs]
theorem wipe_some {σ : St} {i : Nat} {x : V} : ∀ {vs : List Nat}, (wipe σ vs)[i]? = some (some x) → σ[i]? = some (some x) ∧ i ∉ vs
  | [], h => ⟨h, by simp⟩
  | v :: vs, h => by
    unfold wipe at h
    by_cases hi : v = i
    · subst hi
      by_cases hv : v < (wipe σ vs).length
      · rw [List.getElem?_set_self hv] at h; cases h
      · rw [List.getElem?_eq_none (by simpa using hv)] at h; cases h
    · rw [List.getElem?_set_ne hi] at h
      obtain ⟨h1, h2⟩ := wipe_some h
      exact ⟨h1, by simp only [List.mem_cons, not_or]; exact ⟨fun e => hi e.symm, h2⟩⟩

/-- the context of a block that starts at s, its iterator's objects at fp -/
abbrev Cx.blk (X : Cx) (s : Shared) (H : Hp) (scope : Scope) (cenv : Env) (fp : List Addr) : Cx := { X with s_0 := s, H_0 := H, env := cenv, outer := X.stack, ex := fp, fn := fun x => scope.names.lookup x == some .cell, pn := [], xe := fun _ _ => False }
section
variable {X : Cx} {pins : List (Addr × Obj)} {σ : St} {H : Hp} {s : Shared}
theorem block_start {scope : Scope} {own : List (Str × Nat)} {fp : List Addr} (I : Inv X pins σ H s) (ok : BlkOk X.N X.env.scope scope own) (hN : X.N.Nodup) (hfp : ∀ b ∈ fp, FpOk X pins H b ∧ b < s.heap.objs.size) :
    Inv (X.blk s H scope (compEnvC scope (cellsFrom (s.heap.objs.size + 1) scope.names (cloFrom X.env.cells scope.names [])) s.heap.objs.size X.env) fp) [] (wipe σ (own.map (·.2))) H { s with heap := pushCells (s.heap.push { cls := .type "dict", data := .dict #[] }) scope.names } := by
  have hfree : ∀ y ∈ scope.names, y.2 = .free → ∃ c, X.env.cells.lookup y.1 = some c := fun y hy e => by
    rcases ok.free y hy e with k | k
    · exact I.ok.has _ (.inl k)
    · exact I.ok.has _ (.inr k)
  generalize hcenv : compEnvC scope (cellsFrom (s.heap.objs.size + 1) scope.names (cloFrom X.env.cells scope.names [])) s.heap.objs.size X.env = cenv
  have kp : ∀ b o, s.heap.get? b = some o → (pushCells (s.heap.push { cls := .type "dict", data := .dict #[] }) scope.names).get? b = some o := fun b o e => pushCells_keeps _ _ _ _ (Heap.get?_push_of_some _ e)
  have hL : cenv.locals = s.heap.objs.size := by rw [← hcenv]; rfl
  have hcl : cenv.cells = cellsFrom (s.heap.objs.size + 1) scope.names (cloFrom X.env.cells scope.names []) := by rw [← hcenv]; rfl
  have hsc : cenv.scope = relS scope X.env.scope := by rw [← hcenv]; rfl
  rw [← Heap.size_push s.heap { cls := .type "dict", data := .dict #[] }] at hcl
  have cm : ∀ {y c}, (y, c) ∈ cloFrom X.env.cells scope.names [] → X.env.cells.lookup y = some c ∧ c < s.heap.objs.size := fun {y c} hm => by
    rcases cloFrom_mem hm with hm | ⟨h1, rfl⟩
    · cases hm
    · obtain ⟨c, hc⟩ := hfree _ h1 rfl
      rw [hc]
      obtain ⟨w, z⟩ := I.cell _ _ hc
      exact ⟨rfl, z.lt⟩
  have mem : ∀ {y c}, cenv.cells.lookup y = some c → (X.env.cells.lookup y = some c ∧ c < s.heap.objs.size) ∨ (s.heap.objs.size + 1 ≤ c ∧ CellAt (pushCells (s.heap.push { cls := .type "dict", data := .dict #[] }) scope.names) c none) := fun {y c} e => by
    rw [hcl] at e
    rcases cells_mem (PySem.mem_of_lookup e) with hm | ⟨_, h2, h3⟩
    · exact .inl (cm hm)
    · rw [Heap.size_push] at h2; exact .inr ⟨h2, h3⟩
  have look : ∀ {y}, scope.names.lookup y = some .free → ∃ c, cenv.cells.lookup y = some c ∧ X.env.cells.lookup y = some c := fun {y} hl => by
    have hy : (y, NameKind.free) ∈ scope.names := PySem.mem_of_lookup hl
    obtain ⟨c', e'⟩ := mem_lookup (cells_acc (names := scope.names) (n := (s.heap.push { cls := .type "dict", data := .dict #[] }).objs.size) (cloFrom_has (cells := X.env.cells) (acc := []) hy))
    rw [← hcl] at e'
    refine ⟨c', e', ?_⟩
    rw [hcl] at e'
    rcases cells_mem (PySem.mem_of_lookup e') with hm | ⟨h1, _, _⟩
    · exact (cm hm).1
    · have := ok.uniq _ h1
      rw [hl] at this; cases this
  have okB : (X.blk s H scope cenv fp).Ok := by
    refine ⟨I.ok.mod, by show cenv.scope.kind = _; rw [hsc]; exact ok.kind, by show cenv.globals = _; rw [← hcenv]; exact I.ok.glob, by show cenv.builtins = _; rw [← hcenv]; exact I.ok.blt, by show s.heap.objs.size ≤ cenv.locals; rw [hL]; exact Nat.le_refl _,
      fun y z c e1 e2 => ?_, fun y hy => ?_, fun y c z e => ?_, I.ok.hd, I.ok.frames, .inl rfl, fun b hb => ⟨?_, fun y c e z => ?_⟩, I.bs, Nat.le_trans I.ok.bsz I.sz, fun b o e hb => ?_, fun b hb z => ?_, I.stack, I.stkFree⟩
    · have e1 : cenv.cells.lookup y = some c := e1
      have e2 : cenv.cells.lookup z = some c := e2
      rw [hcl] at e1 e2
      refine cells_inj (fun p hp => ?_) (fun y z c a b => I.ok.inj y z c (cm a).1 (cm b).1) (PySem.mem_of_lookup e1) (PySem.mem_of_lookup e2)
      rw [Heap.size_push]
      exact Nat.lt_succ_of_lt (cm (y := p.1) (c := p.2) hp).2
    · show ∃ c, cenv.cells.lookup y = some c
      have key : ∀ k, cenv.kindOf y = some k → (k = .cell ∨ k = .free) → ∃ c, cenv.cells.lookup y = some c := fun k hk hk' => by
        unfold Env.kindOf at hk
        rw [hsc] at hk
        obtain ⟨k', e, r⟩ := lookup_relS hk
        have : k' = .cell ∨ k' = .free := by
          rcases r with rfl | ⟨rfl, _⟩
          · exact hk'
          · exact .inr rfl
        rcases this with rfl | rfl
        · obtain ⟨c, hm⟩ := cells_has (n := (s.heap.push { cls := .type "dict", data := .dict #[] }).objs.size) (acc := cloFrom X.env.cells scope.names []) (PySem.mem_of_lookup e)
          obtain ⟨c', e'⟩ := mem_lookup hm
          exact ⟨c', by rw [hcl]; exact e'⟩
        · obtain ⟨c, h1, _⟩ := look e
          exact ⟨c, h1⟩
      rcases hy with hy | hy
      · exact key _ hy (.inl rfl)
      · exact key _ hy (.inr rfl)
    · have z : (scope.names.lookup y == some NameKind.cell) = true := z
      have z : scope.names.lookup y = some .cell := by simpa using z
      have e : cenv.cells.lookup y = some c := e
      rw [hcl] at e
      rcases cells_mem (PySem.mem_of_lookup e) with hm | ⟨_, h2, _⟩
      · rcases cloFrom_mem hm with hm | ⟨h1, _⟩
        · cases hm
        · have q := ok.uniq _ h1
          rw [z] at q; cases q
      · rw [Heap.size_push] at h2
        exact Nat.le_of_succ_le h2
    · show b ≠ cenv.locals
      rw [hL]; exact Nat.ne_of_lt (hfp b hb).2
    · have e : cenv.cells.lookup y = some c := e
      rcases mem e with ⟨h1, _⟩ | ⟨h1, _⟩
      · exact (hfp b hb).1.2.2.2.2.1 y c h1 z
      · have h2 : s.heap.objs.size + 1 ≤ b := by rw [← z]; exact h1
        exact absurd (Nat.lt_of_lt_of_le (hfp b hb).2 (Nat.le_of_succ_le h2)) (Nat.lt_irrefl _)
    · rcases (hfp b hb).1.2.2.2.1 with z | z
      · exact I.ok.noex b o e z
      · exact absurd (Nat.lt_of_lt_of_le (Heap.lt_size e) (Nat.le_trans I.ok.bsz z)) (Nat.lt_irrefl _)
    · rcases List.mem_cons.mp (I.stkSub b z) with z | z
      · exact (hfp b hb).1.2.1 z
      · exact (hfp b hb).1.2.2.1 z
  refine ⟨okB, rfl, I.bare, Un.kept kp, ⟨fun _ => none, ?_, fun i y av e1 e2 e3 => ?_⟩, fun y c e => ?_, ?_, fun y c e => ?_, fun p hp => ?_, I.hok.kept kp, by rw [wipe_length]; exact I.len⟩
  · show Heap.Ns _ cenv.locals _
    rw [hL]
    exact Heap.Ns.keeps (Heap.Ns.new ..) fun b o e => pushCells_keeps _ _ _ _ e
  · obtain ⟨e2, hne⟩ := wipe_some e2
    have hfr : scope.names.lookup y = some .free ∧ (cenv.kindOf y = some .cell ∨ cenv.kindOf y = some .free) := by
      have key : ∀ k, cenv.scope.names.lookup y = some k → k = .local ∨ k = .cell ∨ k = .free → scope.names.lookup y = some .free ∧ (cenv.kindOf y = some .cell ∨ cenv.kindOf y = some .free) := fun k hk hk' => by
        have hk0 := hk
        rw [hsc] at hk
        obtain ⟨k', e, r⟩ := lookup_relS hk
        have no : ¬ (k' = .local ∨ k' = .cell) := fun hh => by
          rcases ok.own _ (PySem.mem_of_lookup e) hh with e' | e'
          · obtain ⟨p, hp, hpy⟩ := List.mem_map.mp e'
            have e3 := ok.ix p hp
            have : p.1 = y := hpy
            rw [this] at e3
            exact hne (List.mem_map.mpr ⟨p, hp, nodup_ix hN e3 e1⟩)
          · exact e' (List.mem_of_getElem? e1)
        rcases r with rfl | ⟨rfl, rfl⟩
        · rcases hk' with rfl | rfl | rfl
          · exact absurd (.inl rfl) no
          · exact absurd (.inr rfl) no
          · exact ⟨e, .inr hk0⟩
        · exact ⟨e, .inl hk0⟩
      have e3 : Vis cenv.scope y := e3
      rcases e3 with e3 | e3 | e3
      · exact key _ e3 (.inl rfl)
      · exact key _ e3 (.inr (.inl rfl))
      · exact key _ e3 (.inr (.inr rfl))
    obtain ⟨m, hn, hl⟩ := I.loc
    have hvis : Vis X.env.scope y := (ok.free _ (PySem.mem_of_lookup hfr.1) rfl).elim (fun k => .inr (.inl k)) (fun k => .inr (.inr k))
    obtain ⟨w, r, q⟩ := hl i y av e1 e2 hvis
    refine ⟨w, r, .inr ⟨hfr.2, ?_⟩⟩
    obtain ⟨c, h1, h2⟩ := look hfr.1
    rcases q with ⟨k, _⟩ | ⟨_, c', e', z⟩
    · have k : X.env.scope.names.lookup y = some .local := k
      rcases ok.free _ (PySem.mem_of_lookup hfr.1) rfl with k' | k' <;> rw [show X.env.scope.names.lookup y = _ from k'] at k <;> cases k
    · rw [h2] at e'; cases e'
      exact ⟨c, h1, z.keeps kp⟩
  · have e : cenv.cells.lookup y = some c := e
    rcases mem e with ⟨h1, _⟩ | ⟨_, z⟩
    · obtain ⟨w, z⟩ := I.cell y c h1
      exact ⟨w, z.keeps kp⟩
    · exact ⟨_, z⟩
  · show H cenv.locals = none
    rw [hL]; exact I.hok.fresh (Nat.le_refl _)
  · have e : cenv.cells.lookup y = some c := e
    rcases mem e with ⟨h1, _⟩ | ⟨h1, _⟩
    · exact I.freeC y c h1
    · exact I.hok.fresh (Nat.le_of_succ_le h1)
  · exact absurd (show p ∈ ([] : List (Addr × Obj)) ++ [] from hp) (by simp)

/-- an item appended to a tracked list -/
theorem app_ok {E : Value → Shared → Prop} {D : Addr} {xs : List V} {y : V} {v : Value} {Q : Value → Shared → Prop} (I : Inv X pins σ H s) (hD : H D = some (.lst xs)) (hz : xs.length < sizeLine) (r : RelV y v)
    (h : ∀ s', Inv X pins σ (upd H D (.lst (xs ++ [y]))) s' → Q .none s') : wpAny (model X.prog X.w) X.A (call (.builtin "list.append") [.ref D, v]) Q E s := by
  obtain ⟨hz', its, n, ri, e⟩ := I.hok D _ hD
  have hl := ri.length
  refine append_at (hsz := by rw [List.size_toArray]; omega) e fun h' sb ho' => ?_
  refine h { s with heap := h' } (I.write (t' := s.toks) (by rw [hD]; trivial) (.inl rfl) (fun b u hb q => (sb.2 b hb).trans q) ⟨_, ho'⟩ ⟨by rw [List.length_append]; exact hz, its ++ [v], n + 1, ri.append (.cons r .nil), ?_⟩)
  rw [ho']
  simp

/-- a clause's tests -/
def PTs (X : Cx) (ifs : List Expr) (t : TT) : Prop :=
  ∀ (pins : List (Addr × Obj)) (s : Shared) (σ : St) (H : Hp) (Q : Bool → Hp → Prop), Inv X pins σ H s → t σ H Q →
    wpAny (model X.prog X.w) X.A (forIn ifs true fun c r => if r = true then do let ok ← isTrue c X.env (eval c X.env); pure (ForInStep.yield ok) else pure (ForInStep.yield r)) (TP X pins σ Q) X.xe s
def tYes : TT := fun _ H Q => Q true H
theorem pts_nil : PTs X [] tYes := fun _ _ _ H _ I h => wpAny_tests_nil ⟨H, I, h⟩
theorem pts_one {c : Expr} {t : TT} (h : PT X c t) : PTs X [c] t := fun pins s σ H Q I hw => wpAny_tests_one (h pins s σ H Q I hw)
end

theorem thnF {α : Type} {t : Sem α} {Q Q' : α → Shared → Prop} {M : Model} {A : Around} {E : Value → Shared → Prop} {s : Shared} (h : wpAny M A t Q (fun _ _ => False) s) (hQ : ∀ a s, Q a s → Q' a s) : wpAny M A t Q' E s := wpAny_mono h hQ fun _ _ z => False.elim z

/-- the loop of a list comprehension's block, the target of any form (codeAny_compLoop_tests asks a target that no tuple goes to; statement and proof follow it, PyProof/CompMap.lean:41-61, with the step letOwnedTupleGo kept) -/
theorem compLoop_any {prog : Program} {w : World} {A : Around} {R : Result → Shared → Prop} {s : Shared} {elt target iter : Expr} {ifs : List Expr} {scope : Scope} {pos : Pos} {it acc : Value} {env : Env} (I : Nat → Shared → Prop)
    (turn : ∀ n s, I n s → wpAny (model prog w) A (pyNext it) (fun r s₁ => match r with
      | none => R (.ok .next) s₁
      | some v => wpAny (model prog w) A (letOwnedTupleGo target it v) (fun _ s₁' => wpAny (model prog w) A (assign target env v) (fun _ s₂ =>
          wpAny (model prog w) A (forIn ifs true fun c r => if r = true then do let ok ← isTrue c env (eval c env); pure (ForInStep.yield ok) else pure (ForInStep.yield r)) (fun ok s₃ =>
            if ok = true then wpAny (model prog w) A (eval elt env) (fun x s₄ =>
              wpAny (model prog w) A (call (.builtin "list.append") [acc, x]) (fun _ s₅ => ∃ m, m < n ∧ I m s₅) (notedBy (model prog w) A env fun e s' => R (.error e) s') s₄) (notedBy (model prog w) A env fun e s' => R (.error e) s') s₃
            else ∃ m, m < n ∧ I m s₃) (notedBy (model prog w) A env fun e s' => R (.error e) s') s₂) (notedBy (model prog w) A env fun e s' => R (.error e) s') s₁') (notedBy (model prog w) A env fun e s' => R (.error e) s') s₁) (notedBy (model prog w) A env fun e s' => R (.error e) s') s)
    (n : Nat) (h : I n s) :
    codeAny (model prog w) A (.compLoop (.ListComp elt [⟨target, iter, ifs, 0⟩] scope pos) 0 it acc env) R s := by
  refine codeAny_loop rfl I (fun n s hI => ?_) n h
  show wpAny _ A ((compTurn (.ListComp elt [⟨target, iter, ifs, 0⟩] scope pos) 0 it acc env).onRaise (fun x => do noteFrame x env; theTreesLotGoes x)) _ _ s
  refine wpAny_noted ?_
  rw [compTurn_list]
  refine wpAny_bind (wpAny_standAt (wpAny_bind (wpAny_mono (turn n s hI) (fun r s₁ h₁ => ?_) fun _ _ h' => h')))
  cases r with
  | none => exact wpAny_pure h₁
  | some v =>
    refine wpAny_bind (wpAny_mono h₁ (fun _ s₁' h₁' => ?_) fun _ _ h' => h')
    refine wpAny_bind (wpAny_mono h₁' (fun _ s₂ h₂ => wpAny_bind (wpAny_mono h₂ (fun ok s₃ h₃ => ?_) fun _ _ h' => h')) fun _ _ h' => h')
    cases ok with
    | false => exact wpAny_pure ⟨rfl, h₃⟩
    | true =>
      exact wpAny_bind (wpAny_bind (wpAny_mono h₃ (fun x s₄ h₄ => wpAny_bind (wpAny_mono h₄ (fun _ s₅ h₅ => wpAny_pure (wpAny_pure ⟨rfl, h₅⟩)) fun _ _ h' => h')) fun _ _ h' => h'))

section
variable {X : Cx}
/-- [elt for target in iter if ..]: D the new list; W by the turn and a measure, Nx what a turn is to reach -/
def tLc (wi : TI) (g : TG) (tt : TT) (te : TE) (vs : List Nat) : TE := fun σ H Q => wi σ H fun J H1 => ∀ D, H1 D = none → ∃ W : Nat → Nat → Hp → Prop, (∃ m, W 0 m (upd H1 D (.lst []))) ∧ ∀ i m H, W i m H →
  (J.stop i H ∧ Q (.ref D) H) ∨ (J.go i H ∧ ∃ Nx : Hp → Prop, (∀ H', Nx H' → ∃ m', m' < m ∧ W (i + 1) m' H') ∧ ∀ x H', J.yld i H x H' → g x (wipe σ vs) H' fun σ2 H2 => wipe σ2 vs = wipe σ vs ∧ tt σ2 H2 fun b H3 =>
    if b = true then te σ2 H3 fun y H4 => ∃ acc, H4 D = some (.lst acc) ∧ acc.length < sizeLine ∧ Nx (upd H4 D (.lst (acc ++ [y]))) else Nx H3)
theorem lc_core {pins : List (Addr × Obj)} {s : Shared} {σ : St} {H : Hp} {Q : VK} {elt tg iter : Expr} {ifs : List Expr} {scope : Scope} {own : List (Str × Nat)} {pos pos' : Pos} {wi : TI} {g : TG} {tt : TT} {te : TE} {use : Option (Value → Sem Unit)} {Qf : Value → Shared → Prop}
    (hc : X.calm = true) (hN : X.N.Nodup) (I : Inv X pins σ H s) (hi : PI X tg iter wi) (ok : BlkOk X.N X.env.scope scope own)
    (hg : ∀ (s : Shared) (H : Hp) (C : Addr) (cl : List (Str × Addr)) (fp : List Addr), PG (X.blk s H scope (compEnvC scope cl C X.env) fp) tg g) (ht : ∀ (s : Shared) (H : Hp) (C : Addr) (cl : List (Str × Addr)) (fp : List Addr), PTs (X.blk s H scope (compEnvC scope cl C X.env) fp) ifs tt)
    (he : ∀ (s : Shared) (H : Hp) (C : Addr) (cl : List (Str × Addr)) (fp : List Addr), PE (X.blk s H scope (compEnvC scope cl C X.env) fp) elt te) (hs : ∀ x, foldedSetIterable iter X.env x = pure x)
    (h : tLc wi g tt te (own.map (·.2)) σ H Q)
    (hRR : ∀ D C s' m H', Inv X pins σ H' s' → Q (.ref D) H' → s'.heap.Ns C m → FpOk X pins H' C → compPost (model X.prog X.w) X.A X.xe use Qf (.ref D) C (.ok .next) s') :
    wpAny (model X.prog X.w) X.A (comprehension (.ListComp elt [⟨tg, iter, ifs, 0⟩] scope pos) scope X.env pos' (newList []) false (eval iter X.env) use) Qf X.xe s := by
  have hfree : ∀ y ∈ scope.names, y.2 = .free → ∃ c, X.env.cells.lookup y.1 = some c := fun y hy e => by
    rcases ok.free y hy e with k | k
    · exact I.ok.has _ (.inl k)
    · exact I.ok.has _ (.inr k)
  refine wpAny_comprehension_free (use := use) rfl hs (closure_ok hfree) ok.kind (fun y hy e => by rw [ok.uniq y hy, e])
    (thn (hi pins s σ H _ I h) fun xv s1 hx => thn hx fun itv s2 h2 => ?_)
  obtain ⟨it, fp, tn, J, H2, e, I2, T, st2, f2, q⟩ := h2
  subst e
  refine wpAny_newObj_type (newEnv_comp ?_) (by show 0 ≤ sizeLine; decide)
  generalize hD : s2.heap.objs.size = D
  have hDn : H2 D = none := I2.hok.fresh (Nat.le_of_eq hD)
  obtain ⟨W, ⟨m0, w0⟩, turn⟩ := q D hDn
  -- the new list
  generalize hs3 : ({ s2 with heap := s2.heap.push { cls := .type "list", data := .seq ([] : List Value).toArray } } : Shared) = s3
  have I3 : Inv X pins σ (upd H2 D (.lst [])) s3 := by
    rw [← hs3]
    refine I2.laid (t' := s2.toks) (fun b o e => Heap.get?_push_of_some _ e) (Nat.le_of_eq hD) ⟨Nat.zero_le _, [], 0, .nil, ?_⟩
    rw [← hD]
    exact Heap.get?_push_size _ rfl
  have h3 : s3.heap = s2.heap.push { cls := .type "list", data := .seq ([] : List Value).toArray } := by rw [← hs3]
  have sz : ∀ b ∈ fp, b < s2.heap.objs.size := fun b hb => by
    obtain ⟨o, e, _⟩ := T.obj _ _ st2 b hb
    exact Heap.lt_size e
  have f3 : ∀ b ∈ fp, FpOk X pins (upd H2 D (.lst [])) b ∧ b < s3.heap.objs.size := fun b hb => by
    have hlt := sz b hb
    refine ⟨⟨?_, (f2 b hb).2⟩, by rw [h3, Heap.size_push]; exact Nat.lt_succ_of_lt hlt⟩
    rw [upd_ne (by rw [← hD]; exact Nat.ne_of_lt hlt)]
    exact (f2 b hb).1
  have st3 : tn 0 s3.heap := T.keep _ _ _ st2 fun b _ o e => by rw [h3]; exact Heap.get?_push_of_some _ e
  have I4 := block_start I3 ok hN f3
  have pg := hg s3 (upd H2 D (.lst [])) s3.heap.objs.size (cellsFrom (s3.heap.objs.size + 1) scope.names (cloFrom X.env.cells scope.names [])) fp
  have pt := ht s3 (upd H2 D (.lst [])) s3.heap.objs.size (cellsFrom (s3.heap.objs.size + 1) scope.names (cloFrom X.env.cells scope.names [])) fp
  have pe := he s3 (upd H2 D (.lst [])) s3.heap.objs.size (cellsFrom (s3.heap.objs.size + 1) scope.names (cloFrom X.env.cells scope.names [])) fp
  show codeAny _ _ (.compStart (.ListComp elt [⟨tg, iter, ifs, 0⟩] scope pos) 0 (.ref it) (.ref D) (compEnvC scope (cellsFrom (s3.heap.objs.size + 1) scope.names (cloFrom X.env.cells scope.names [])) s3.heap.objs.size X.env)) (compPost (model X.prog X.w) X.A X.xe use Qf (.ref D) s3.heap.objs.size) { s3 with heap := pushCells (s3.heap.push { cls := .type "dict", data := .dict #[] }) scope.names }
  have nfp : ∀ b ∈ fp, (upd H2 D (.lst [])) b = none := fun b hb => (f3 b hb).1.1
  generalize hce : compEnvC scope (cellsFrom (s3.heap.objs.size + 1) scope.names (cloFrom X.env.cells scope.names [])) s3.heap.objs.size X.env = ce at I4 pg pt pe ⊢
  have cL : ce.locals = s3.heap.objs.size := by subst hce; rfl
  generalize hH3 : upd H2 D (.lst []) = H3 at I3 I4 pg pt pe w0 nfp f3
  generalize hs4 : ({ s3 with heap := pushCells (s3.heap.push { cls := .type "dict", data := .dict #[] }) scope.names } : Shared) = s4 at I4 ⊢
  have st4 : tn 0 s4.heap := T.keep _ _ _ st3 fun b _ o e => by rw [← hs4]; exact pushCells_keeps _ _ _ _ (Heap.get?_push_of_some _ e)
  have stat : ∀ {σ' : St} {H' : Hp} {s' : Shared}, Inv (X.blk s3 H3 scope ce fp) [] σ' H' s' → (∀ b ∈ fp, H' b = none) → ∀ b ∈ fp, FpOk (X.blk s3 H3 scope ce fp) [] H' b := fun {σ' H' s'} I' hn b hb =>
    ⟨hn b hb, (I'.ok.exf b hb).1, I'.ok.exfs b hb, .inl hb, fun x c e => (I'.ok.exf b hb).2 x c e, fun p hp => absurd (show p ∈ ([] : List (Addr × Obj)) ++ [] from hp) (by simp)⟩
  have loop : codeAny (model X.prog X.w) X.A (.compLoop (.ListComp elt [⟨tg, iter, ifs, 0⟩] scope pos) 0 (.ref it) (.ref D) ce) (compPost (model X.prog X.w) X.A X.xe use Qf (.ref D) s3.heap.objs.size) s4 := by
    refine compLoop_any (fun n s' => ∃ i H', Inv (X.blk s3 H3 scope ce fp) [] (wipe σ (own.map (·.2))) H' s' ∧ tn i s'.heap ∧ (∀ b ∈ fp, H' b = none) ∧ W i n H') ?_ m0 ⟨0, H3, I4, st4, nfp, w0⟩
    rintro n s5 ⟨i, H5, I5, st5, n5, w5⟩
    rcases turn i n H5 w5 with ⟨stop, qq⟩ | ⟨go, Nx, hNx, step⟩
    · have td := T.done (X.blk s3 H3 scope ce fp) rfl rfl rfl hc i [] s5 _ H5 (fun _ _ => False) I5 (stat I5 n5) st5 stop
      refine thnF td fun r s6 ⟨hr, I6⟩ => ?_
      subst hr
      -- back in the def's context
      have I7 : Inv X pins σ H5 s6 := I3.call' (ch := fp) I6.os I6.base I6.hok I6.bare fun b hb => ⟨(f3 b hb).1.2.2.2.1, (f3 b hb).1.2.1, (f3 b hb).1.2.2.2.2.1, (f3 b hb).1.2.2.2.2.2⟩
      have nC : H5 s3.heap.objs.size = none := by
        have z : H5 ce.locals = none := I6.free
        rw [cL] at z
        exact z
      obtain ⟨m, hn, _⟩ := I6.loc
      have hn : s6.heap.Ns ce.locals m := hn
      rw [cL] at hn
      exact hRR D s3.heap.objs.size s6 m H5 I7 qq hn (I3.fpOk (Nat.le_refl _) nC)
    · have ti := T.item (X.blk s3 H3 scope ce fp) rfl rfl rfl hc i [] s5 _ H5 (fun _ _ => False) I5 (stat I5 n5) st5 go
      refine thnF ti fun r s6 ⟨u, hr, h6⟩ => ?_
      subst hr
      refine thnF h6 fun _ s7 ⟨x, H7, I7, r7, y7, st7, n7⟩ => ?_
      have I7' := I7.pinned (stat I7 n7) (T.obj _ _ st7)
      refine thnF (pg _ s7 _ H7 x u _ I7' r7 (step x H7 y7)) fun _ s8 ⟨σ8, H8, I8, hw8, q8⟩ => ?_
      refine thnF (pt _ s8 σ8 H8 _ I8 q8) fun b s9 ⟨H9, I9, q9⟩ => ?_
      -- the turn's end
      have fin : ∀ {s' : Shared} {H' : Hp}, Inv (X.blk s3 H3 scope ce fp) ([] ++ pinsAt fp s7.heap) σ8 H' s' → Nx H' → ∃ m, m < n ∧ ∃ i H', Inv (X.blk s3 H3 scope ce fp) [] (wipe σ (own.map (·.2))) H' s' ∧ tn i s'.heap ∧ (∀ b ∈ fp, H' b = none) ∧ W i m H' := fun {s' H'} I' nx => by
        obtain ⟨m', hm, w'⟩ := hNx H' nx
        have pin' : ∀ b ∈ fp, ∀ o, s7.heap.get? b = some o → s'.heap.get? b = some o ∧ H' b = none := fun b hb o e =>
          let z := I'.pin (b, o) (List.mem_append_right _ (List.mem_append_right _ (mem_pinsAt hb e)))
          ⟨z.1, z.2.1⟩
        have hl : (wipe σ (own.map (·.2))).length = σ8.length := by rw [← hw8, wipe_length]
        refine ⟨m', hm, i + 1, H', (I'.unpinned (pins := [])).weak hl (fun j v e => ?_), T.keep _ _ _ st7 fun b hb o e => (pin' b hb o e).1, fun b hb => ?_, w'⟩
        · rw [← hw8] at e
          exact (wipe_some e).1
        · obtain ⟨o, e, _⟩ := T.obj _ _ st7 b hb
          exact (pin' b hb o e).2
      cases b with
      | false =>
        simp only [Bool.false_eq_true, if_false] at q9 ⊢
        exact fin I9 q9
      | true =>
        simp only [if_true] at q9 ⊢
        refine thnF (pe _ s9 σ8 H9 _ I9 q9) fun z s10 ⟨yv, H10, I10, r10, acc, hD10, hz10, nx⟩ => ?_
        exact app_ok (X := X.blk s3 H3 scope ce fp) I10 hD10 hz10 r10 fun s11 I11 => fin I11 nx
  exact codeAny_compStart_list loop (T.self X.A 0 _ _ _ st4 loop)
/-- as a value -/
theorem pe_lc {elt tg iter : Expr} {ifs : List Expr} {scope : Scope} {own : List (Str × Nat)} {pos : Pos} {wi : TI} {g : TG} {tt : TT} {te : TE} (hc : X.calm = true) (hN : X.N.Nodup) (hi : PI X tg iter wi) (ok : BlkOk X.N X.env.scope scope own)
    (hg : ∀ (s : Shared) (H : Hp) (C : Addr) (cl : List (Str × Addr)) (fp : List Addr), PG (X.blk s H scope (compEnvC scope cl C X.env) fp) tg g) (ht : ∀ (s : Shared) (H : Hp) (C : Addr) (cl : List (Str × Addr)) (fp : List Addr), PTs (X.blk s H scope (compEnvC scope cl C X.env) fp) ifs tt)
    (he : ∀ (s : Shared) (H : Hp) (C : Addr) (cl : List (Str × Addr)) (fp : List Addr), PE (X.blk s H scope (compEnvC scope cl C X.env) fp) elt te) (hs : ∀ x, foldedSetIterable iter X.env x = pure x := by intro _; rfl) :
    PE X (.ListComp elt [⟨tg, iter, ifs, 0⟩] scope pos) (tLc wi g tt te (own.map (·.2))) := by
  intro pins s σ H Q I h
  rw [eval_ListComp]
  refine lc_core hc hN I hi ok hg ht he hs h fun D C s' m H' I' q hn f => ⟨m, hn, fun h'' sb => ?_⟩
  obtain ⟨f0, f1, f2, f3, f4, f5⟩ := f
  exact ⟨.ref D, H', I'.turned (t' := s'.toks) (fun b o hb e => (sb.2 b hb).trans e) f0 f1 f3 f4 f5, rfl, q⟩
end

/-! ### the forms one uses -/
/-- over a range: Pv by the turn and the heap (the new list at D within) -/
theorem lc_range {lo : Int} {n : Nat} {g : TG} {tt : TT} {te : TE} {vs : List Nat} {σ : St} {H1 : Hp} {D : Addr} {Qd : Hp → Prop} (Pv : Nat → Hp → Prop) (h0 : Pv 0 (upd H1 D (.lst [])))
    (hs : ∀ i H, i < n → Pv i H → g (.int (lo + i)) (wipe σ vs) H fun σ2 H2 => wipe σ2 vs = wipe σ vs ∧ tt σ2 H2 fun b H3 =>
      if b = true then te σ2 H3 fun y H4 => ∃ acc, H4 D = some (.lst acc) ∧ acc.length < sizeLine ∧ Pv (i + 1) (upd H4 D (.lst (acc ++ [y]))) else Pv (i + 1) H3) (hd : ∀ H, Pv n H → Qd H) :
    ∃ W : Nat → Nat → Hp → Prop, (∃ m, W 0 m (upd H1 D (.lst []))) ∧ ∀ i m H, W i m H →
      ((Itr lo n).stop i H ∧ Qd H) ∨ ((Itr lo n).go i H ∧ ∃ Nx : Hp → Prop, (∀ H', Nx H' → ∃ m', m' < m ∧ W (i + 1) m' H') ∧ ∀ x H', (Itr lo n).yld i H x H' → g x (wipe σ vs) H' fun σ2 H2 => wipe σ2 vs = wipe σ vs ∧ tt σ2 H2 fun b H3 =>
        if b = true then te σ2 H3 fun y H4 => ∃ acc, H4 D = some (.lst acc) ∧ acc.length < sizeLine ∧ Nx (upd H4 D (.lst (acc ++ [y]))) else Nx H3) := by
  refine ⟨fun i m H => m = n - i ∧ i ≤ n ∧ Pv i H, ⟨n, by simp, Nat.zero_le _, h0⟩, ?_⟩
  rintro i m H ⟨rfl, hi, p⟩
  by_cases hlt : i < n
  · refine .inr ⟨hlt, Pv (i + 1), fun H' p' => ⟨n - (i + 1), by omega, rfl, hlt, p'⟩, fun x H' y => ?_⟩
    obtain ⟨e, y⟩ := y
    subst e y
    exact hs i _ hlt p
  · have e : i = n := by omega
    subst e
    exact .inl ⟨Nat.le_refl _, hd H p⟩
/-- over a list that the block leaves as it is -/
theorem lc_list {K : PySem.W.Frag} {a : Addr} {xs : List V} {g : TG} {tt : TT} {te : TE} {vs : List Nat} {σ : St} {H1 : Hp} {D : Addr} {Qd : Hp → Prop} (Pv : Nat → Hp → Prop) (h0 : Pv 0 (upd H1 D (.lst []))) (hl : ∀ i H, i ≤ xs.length → Pv i H → SqL K H a xs)
    (hs : ∀ i x H, xs[i]? = some x → Pv i H → g x (wipe σ vs) H fun σ2 H2 => wipe σ2 vs = wipe σ vs ∧ tt σ2 H2 fun b H3 =>
      if b = true then te σ2 H3 fun y H4 => ∃ acc, H4 D = some (.lst acc) ∧ acc.length < sizeLine ∧ Pv (i + 1) (upd H4 D (.lst (acc ++ [y]))) else Pv (i + 1) H3) (hd : ∀ H, Pv xs.length H → Qd H) :
    ∃ W : Nat → Nat → Hp → Prop, (∃ m, W 0 m (upd H1 D (.lst []))) ∧ ∀ i m H, W i m H →
      ((Itl K a).stop i H ∧ Qd H) ∨ ((Itl K a).go i H ∧ ∃ Nx : Hp → Prop, (∀ H', Nx H' → ∃ m', m' < m ∧ W (i + 1) m' H') ∧ ∀ x H', (Itl K a).yld i H x H' → g x (wipe σ vs) H' fun σ2 H2 => wipe σ2 vs = wipe σ vs ∧ tt σ2 H2 fun b H3 =>
        if b = true then te σ2 H3 fun y H4 => ∃ acc, H4 D = some (.lst acc) ∧ acc.length < sizeLine ∧ Nx (upd H4 D (.lst (acc ++ [y]))) else Nx H3) := by
  refine ⟨fun i m H => m = xs.length - i ∧ i ≤ xs.length ∧ Pv i H, ⟨xs.length, by simp, Nat.zero_le _, h0⟩, ?_⟩
  rintro i m H ⟨rfl, hi, p⟩
  have q := hl i H hi p
  by_cases hlt : i < xs.length
  · refine .inr ⟨⟨xs, xs[i], q, by simp [hlt]⟩, Pv (i + 1), fun H' p' => ⟨xs.length - (i + 1), by omega, rfl, hlt, p'⟩, fun x H' y => ?_⟩
    obtain ⟨e, y⟩ := y
    subst e
    exact hs i x _ (y xs q) p
  · have e : i = xs.length := by omega
    subst e
    exact .inl ⟨⟨xs, q, Nat.le_refl _⟩, hd H p⟩
end L2

namespace L2
open PySem PySem.Spec PyProof.Rows

section
variable {prog : Program} {w : World} {A : Around} {R : Result → Shared → Prop} {s : Shared} {elt t0 i0 t1 i1 : Expr} {ifs0 ifs1 : List Expr} {scope : Scope} {pos : Pos} {it acc : Value} {env : Env}
end

section
variable {X : Cx}
end
end L2

namespace L2
open PySem PySem.Spec PyProof.Rows

/-! ### lists of pairs as tables -/
section
variable {κ : Type} [DecidableEq κ]
def valV (kvs : List (κ × V)) (k : κ) : Option V := (kvs.find? fun kv => decide (kv.1 = k)).map (·.2)
/-- in its place, or at the end -/
def putK (kvs : List (κ × V)) (k : κ) (v : V) : List (κ × V) :=
  if (kvs.any fun kv => decide (kv.1 = k)) = true then kvs.map (fun kv => if kv.1 = k then (kv.1, v) else kv) else kvs ++ [(k, v)]
theorem valV_pos {p : κ × V} {r : List (κ × V)} {k : κ} (e : p.1 = k) : valV (p :: r) k = some p.2 := by simp [valV, List.find?_cons, e]
theorem valV_neg {p : κ × V} {r : List (κ × V)} {k : κ} (e : ¬ p.1 = k) : valV (p :: r) k = valV r k := by simp [valV, List.find?_cons, e]
theorem valV_any (k : κ) : ∀ kvs : List (κ × V), (kvs.any fun kv => decide (kv.1 = k)) = (valV kvs k).isSome
  | [] => rfl
  | p :: r => by
    rw [List.any_cons]
    by_cases e : p.1 = k
    · simp only [valV_pos e, decide_eq_true e, Bool.true_or, Option.isSome_some]
    · rw [valV_neg e, decide_eq_false e, Bool.false_or]; exact valV_any k r
theorem length_putK (kvs : List (κ × V)) (k : κ) (v : V) : (putK kvs k v).length ≤ kvs.length + 1 := by
  unfold putK
  split
  · rw [List.length_map]; omega
  · rw [List.length_append, List.length_cons, List.length_nil]; omega
theorem putK_new {kvs : List (κ × V)} {k : κ} (v : V) (h : valV kvs k = none) : putK kvs k v = kvs ++ [(k, v)] := by
  unfold putK
  rw [valV_any, h]
  exact if_neg (by decide)

theorem RelO.isSome_eq {o : Option V} {u : Option Value} (r : RelO o u) : o.isSome = u.isSome := by
  cases o with
  | none => cases u with
    | none => rfl
    | some _ => exact (show False from r).elim
  | some _ => cases u with
    | none => exact (show False from r).elim
    | some _ => rfl
/-- raw tables of the same keys -/
theorem KV.val {kvs : List (κ × V)} {vs : List (κ × Value)} (r : KV kvs vs) (k : κ) : RelO (valV kvs k) (valueAt vs k) := by
  unfold KV at r
  induction r with
  | nil => exact True.intro
  | @cons p q ps qs h t ih =>
    obtain ⟨h1, h2⟩ := h
    by_cases e : p.1 = k
    · have e' : q.1 = k := h1.symm.trans e
      have b : valueAt (q :: qs) k = some q.2 := by simp [valueAt, List.find?_cons, e']
      rw [valV_pos e, b]; exact h2
    · have e' : ¬ q.1 = k := fun z => e (h1.trans z)
      have b : valueAt (q :: qs) k = valueAt qs k := by simp [valueAt, List.find?_cons, e']
      rw [valV_neg e, b]; exact ih
theorem KV.any {kvs : List (κ × V)} {vs : List (κ × Value)} (r : KV kvs vs) (k : κ) : (kvs.any fun kv => decide (kv.1 = k)) = vs.any fun kv => decide (kv.1 = k) := by
  unfold KV at r
  induction r with
  | nil => rfl
  | cons h t ih => rw [List.any_cons, List.any_cons, ih, h.1]
theorem KV.repl {kvs : List (κ × V)} {vs : List (κ × Value)} (r : KV kvs vs) (k : κ) {y : V} {u : Value} (ry : RelV y u) :
    KV (kvs.map fun kv => if kv.1 = k then (kv.1, y) else kv) (vs.map fun kv => if kv.1 = k then (kv.1, u) else kv) := by
  unfold KV at r ⊢
  induction r with
  | nil => exact .nil
  | @cons p q ps qs h t ih =>
    rw [List.map_cons, List.map_cons]
    refine .cons ?_ ih
    obtain ⟨h1, h2⟩ := h
    by_cases e : p.1 = k
    · rw [if_pos e, if_pos (h1.symm.trans e)]; exact ⟨h1, ry⟩
    · rw [if_neg e, if_neg (fun z => e (h1.trans z))]; exact ⟨h1, h2⟩
theorem KV.put {kvs : List (κ × V)} {vs : List (κ × Value)} (r : KV kvs vs) (k : κ) {y : V} {u : Value} (ry : RelV y u) : KV (putK kvs k y) (stored vs k u) := by
  unfold putK stored
  rw [r.any k]
  by_cases e : (vs.any fun kv => decide (kv.1 = k)) = true
  · rw [if_pos e, if_pos e]; exact r.repl k ry
  · rw [if_neg e, if_neg e]; exact Paired.snoc r ⟨rfl, ry⟩
theorem KV.length {kvs : List (κ × V)} {vs : List (κ × Value)} (r : KV kvs vs) : kvs.length = vs.length := Paired.length r
end


/-! ### a tracked dict, its keys ints and texts or tuples of these -/
theorem kV_is {P : Program} {w : World} {k : Key} {u : Value} (r : RelV (kV k) u) : (mixKind P w).is k u = true := by
  cases k with
  | inl i => obtain ⟨t, e⟩ := (show ∃ t, u = Value.int i t from r); subst e; exact mixKind_int P w i t
  | inr x => obtain ⟨t, e⟩ := (show ∃ t, u = Value.str x t from r); subst e; exact mixKind_str P w x t
theorem items_are {P : Program} {w : World} : ∀ {ks : List Key} {us : List Value}, Vals (ks.map kV) us → ItemsAre (mixKind P w) ks us
  | [], _, r => by rw [List.map_nil] at r; cases r; exact .nil
  | k :: ks, _, r => by
    rw [List.map_cons] at r
    cases r with
    | cons h t => exact .cons (kV_is h) (items_are t)

/-- raw entries of a dict with tuple keys -/
abbrev KT (H : Hp) : List (List Key × V) → List (List Key × Addr × Value) → Prop := Paired fun p q => p.1 = q.1 ∧ H q.2.1 = some (.tup (p.1.map kV)) ∧ RelV p.2 q.2.2
theorem KT.val {H : Hp} {kvs : List (List Key × V)} {xs : List (List Key × Addr × Value)} (r : KT H kvs xs) (k : List Key) : RelO (valV kvs k) ((atKey xs k).map (·.2)) := by
  induction r with
  | nil => exact True.intro
  | @cons p q ps qs h t ih =>
    obtain ⟨h1, _, h2⟩ := h
    by_cases e : p.1 = k
    · have e' : q.1 = k := h1.symm.trans e
      have b : atKey (q :: qs) k = some q.2 := by simp [atKey, List.find?_cons, e']
      rw [valV_pos e, b]; exact h2
    · have e' : ¬ q.1 = k := fun z => e (h1.trans z)
      have b : atKey (q :: qs) k = atKey qs k := by simp [atKey, List.find?_cons, e']
      rw [valV_neg e, b]; exact ih
theorem KT.repl {H : Hp} {kvs : List (List Key × V)} {xs : List (List Key × Addr × Value)} (r : KT H kvs xs) (k : List Key) {y : V} {u : Value} (ry : RelV y u) :
    KT H (kvs.map fun kv => if kv.1 = k then (kv.1, y) else kv) (xs.map (putAt k u)) := by
  induction r with
  | nil => exact .nil
  | @cons p q ps qs h t ih =>
    rw [List.map_cons, List.map_cons]
    refine .cons ?_ ih
    obtain ⟨h1, h2, h3⟩ := h
    unfold putAt
    by_cases e : p.1 = k
    · rw [if_pos e, if_pos (h1.symm.trans e)]; exact ⟨h1, h2, ry⟩
    · rw [if_neg e, if_neg (fun z => e (h1.trans z))]; exact ⟨h1, h2, h3⟩
theorem KT.put {H : Hp} {kvs : List (List Key × V)} {xs : List (List Key × Addr × Value)} (r : KT H kvs xs) (k : List Key) {b : Addr} {y : V} {u : Value} (hb : H b = some (.tup (k.map kV))) (ry : RelV y u) :
    KT H (putK kvs k y) (storedH xs k b u) := by
  have e : (kvs.any fun kv => decide (kv.1 = k)) = (atKey xs k).isSome := by
    rw [valV_any, (r.val k).isSome_eq, Option.isSome_map]
  unfold putK storedH
  rw [e]
  by_cases q : (atKey xs k).isSome = true
  · rw [if_pos q, if_pos q]; exact r.repl k ry
  · rw [if_neg q, if_neg q]; exact Paired.snoc r ⟨rfl, hb, ry⟩
theorem KT.keeps {H H' : Hp} {kvs : List (List Key × V)} {xs : List (List Key × Addr × Value)} (r : KT H kvs xs) (ht : ∀ b ys, H b = some (.tup ys) → H' b = some (.tup ys)) : KT H' kvs xs :=
  Paired.mapP r fun _ _ z => ⟨z.1, ht _ _ z.2.1, z.2.2⟩

section
variable {P : Program} {w : World} {H : Hp} {h : Heap} {a : Addr}
theorem rd_of {u : HO} (ok : HOk P w H h) (e : Rd H a u) : ObjOk P w H h a u := e.ok ok
theorem dk_rd {kvs : List (Key × V)} (ok : HOk P w H h) (e : Rd H a (.dK kvs)) : kvs.length ≤ sizeLine ∧ (a == sysModules) = false ∧ ∃ vs, KV kvs vs ∧ h.DictOf (mixKind P w) a vs :=
  show ObjOk P w H h a (.dK kvs) from rd_of ok e
theorem dk_of {kvs : List (Key × V)} (ok : HOk P w H h) (e : H a = some (.dK kvs)) : kvs.length ≤ sizeLine ∧ (a == sysModules) = false ∧ ∃ vs, KV kvs vs ∧ h.DictOf (mixKind P w) a vs := dk_rd ok (.inl e)
/-- a tracked tuple of ints and texts is a key -/
theorem key_of {ks : List Key} (ok : HOk P w H h) (e : H a = some (.tup (ks.map kV))) : (tupleKind (mixKind P w)).is h ks a := by
  obtain ⟨_, its, r, o, h1, h2, n, h3⟩ := (show ObjOk P w H h a (.tup (ks.map kV)) from ok a _ e)
  exact ⟨o, its.toArray, n, h1, h2, h3, by simpa using items_are r⟩
theorem dt_rd {kvs : List (List Key × V)} (ok : HOk P w H h) (e : Rd H a (.dT kvs)) : kvs.length ≤ sizeLine ∧ (a == sysModules) = false ∧
    ∃ xs, KT H kvs xs ∧ h.DictOfH (tupleKind (mixKind P w)) a xs := by
  obtain ⟨z, y, xs, r, o, es, ep, h1, h2, h3, h4, h5⟩ := (show ObjOk P w H h a (.dT kvs) from rd_of ok e)
  refine ⟨z, y, xs, r, o, es, ep, h1, h2, h3, h4, fun x hx => ?_, h5⟩
  have all : ∀ {l : List (List Key × V)} {m : List (List Key × Addr × Value)}, KT H l m → ∀ x ∈ m, (tupleKind (mixKind P w)).is h x.1 x.2.1 := by
    intro l m q
    induction q with
    | nil => intro x hx; exact nomatch hx
    | @cons p q ps qs hq t ih =>
      intro x hx
      rcases List.mem_cons.mp hx with e | hx
      · subst e
        exact key_of ok (by rw [← hq.1]; exact hq.2.1)
      · exact ih x hx
  exact all r x hx
theorem dt_of {kvs : List (List Key × V)} (ok : HOk P w H h) (e : H a = some (.dT kvs)) : kvs.length ≤ sizeLine ∧ (a == sysModules) = false ∧
    ∃ xs, KT H kvs xs ∧ h.DictOfH (tupleKind (mixKind P w)) a xs := dt_rd ok (.inl e)
end

/-- what the dict at a holds at the key y -/
def DGet (H : Hp) (a : Addr) (y : V) (r : Option V) : Prop :=
  (∃ kvs k, Rd H a (.dK kvs) ∧ y = kV k ∧ r = valV kvs k) ∨ ∃ kvs k b, Rd H a (.dT kvs) ∧ y = .ref b ∧ H b = some (.tup (k.map kV)) ∧ r = valV kvs k
/-- the heap behind a[y] = v -/
def DPut (H : Hp) (a : Addr) (y v : V) (H' : Hp) : Prop :=
  (∃ kvs k, H a = some (.dK kvs) ∧ y = kV k ∧ kvs.length < sizeLine ∧ H' = upd H a (.dK (putK kvs k v))) ∨
  ∃ kvs k b, H a = some (.dT kvs) ∧ y = .ref b ∧ H b = some (.tup (k.map kV)) ∧ kvs.length < sizeLine ∧ H' = upd H a (.dT (putK kvs k v))
theorem DPut.k {H : Hp} {a : Addr} {kvs : List (Key × V)} {k : Key} {v : V} (e : H a = some (.dK kvs)) (hl : kvs.length < sizeLine) : DPut H a (kV k) v (upd H a (.dK (putK kvs k v))) := .inl ⟨kvs, k, e, rfl, hl, rfl⟩
section
variable {X : Cx} {pins : List (Addr × Obj)} {σ : St} {H : Hp} {s : Shared} {a : Addr} {y v : V} {u r : Value} {o : Option V} {A : Around} {E : Value → Shared → Prop}

theorem Inv.big (I : Inv X pins σ H s) : sysModules < s.heap.objs.size := by
  have h : mainGlobals < s.heap.objs.size := (I.mod.glob.keeps I.bk).lt
  exact Nat.lt_trans (by decide) h

/-- d[y], there -/
theorem d_getItem {Q : Value → Shared → Prop} (hu : A.units + 1 < cLine) (I : Inv X pins σ H s) (g : DGet H a y (some v)) (ry : RelV y u) (h : ∀ w' s', Inv X pins σ H s' → RelV v w' → Q w' s') :
    wpAny (model X.prog X.w) A (getItem (.ref a) u) Q E s := by
  rcases g with ⟨kvs, k, e, ey, l⟩ | ⟨kvs, k, b, e, ey, eb, l⟩
  · subst ey
    obtain ⟨z, hd, vs, rel, dd⟩ := dk_rd I.hok e
    obtain ⟨w', hw, rw'⟩ := RelO.some_of (v := v) (o := valueAt vs k) (by rw [l]; exact rel.val k)
    exact wpAny_getItem_of (kV_is ry) dd.mapOf hw (h w' _ (I.tok _) rw')
  · subst ey
    cases (show u = Value.ref b from ry)
    obtain ⟨z, hd, xs, rel, dd⟩ := dt_rd I.hok e
    obtain ⟨w', hw, rw'⟩ := RelO.some_of (v := v) (o := (atKey xs k).map (·.2)) (by rw [l]; exact rel.val k)
    obtain ⟨p, hp, hp2⟩ := Option.map_eq_some_iff.mp hw
    refine wpAny_getItem_heap (tupleKind_room_in1 hu) (key_of I.hok eb) dd hp ?_
    rw [hp2]
    exact h w' _ (I.tok _) rw'
/-- y in d -/
theorem d_in {Q : Value → Shared → Prop} (hu : A.units + 1 < cLine) (I : Inv X pins σ H s) (g : DGet H a y o) (ry : RelV y u) (h : ∀ s', Inv X pins σ H s' → Q (.bool o.isSome) s') :
    wpAny (model X.prog X.w) A (compareOp .In u (.ref a)) Q E s := by
  rcases g with ⟨kvs, k, e, ey, l⟩ | ⟨kvs, k, b, e, ey, eb, l⟩
  · subst ey
    obtain ⟨z, hd, vs, rel, dd⟩ := dk_rd I.hok e
    refine wpAny_in_of (kV_is ry) hd dd.mapOf ?_
    rw [← (rel.val k).isSome_eq, ← l]
    exact h _ (I.tok _)
  · subst ey
    cases (show u = Value.ref b from ry)
    obtain ⟨z, hd, xs, rel, dd⟩ := dt_rd I.hok e
    refine wpAny_in_heap (tupleKind_room_in1 hu) (key_of I.hok eb) hd dd ?_
    have q := (rel.val k).isSome_eq
    rw [Option.isSome_map] at q
    rw [← q, ← l]
    exact h _ (I.tok _)
theorem d_notIn {Q : Value → Shared → Prop} (hu : A.units + 1 < cLine) (I : Inv X pins σ H s) (g : DGet H a y o) (ry : RelV y u) (h : ∀ s', Inv X pins σ H s' → Q (.bool (!o.isSome)) s') :
    wpAny (model X.prog X.w) A (compareOp .NotIn u (.ref a)) Q E s := by
  rcases g with ⟨kvs, k, e, ey, l⟩ | ⟨kvs, k, b, e, ey, eb, l⟩
  · subst ey
    obtain ⟨z, hd, vs, rel, dd⟩ := dk_rd I.hok e
    refine wpAny_notIn_of (kV_is ry) hd dd.mapOf ?_
    rw [← (rel.val k).isSome_eq, ← l]
    exact h _ (I.tok _)
  · subst ey
    cases (show u = Value.ref b from ry)
    obtain ⟨z, hd, xs, rel, dd⟩ := dt_rd I.hok e
    refine wpAny_notIn_heap (tupleKind_room_in1 hu) (key_of I.hok eb) hd dd ?_
    have q := (rel.val k).isSome_eq
    rw [Option.isSome_map] at q
    rw [← q, ← l]
    exact h _ (I.tok _)
/-- a dict's object is replaced -/
theorem d_write {h' : Heap} {t' : Nat} {ob : HO} (I : Inv X pins σ H s) (mu : Mut (H a)) (hs : Heap.SameBut a s.heap h') (he : ∃ q, h'.get? a = some q) (new : ObjOk X.prog X.w (upd H a ob) h' a ob) :
    Inv X pins σ (upd H a ob) { s with heap := h', toks := t' } :=
  I.write (x := a) (e := a) mu (.inl rfl) (fun b q hb z => (hs.2 b hb).trans z) he new
theorem dk_new {P : Program} {w : World} {H' : Hp} {h' : Heap} {kvs : List (Key × V)} {vs : List (Key × Value)} (z : kvs.length ≤ sizeLine) (hd : (a == sysModules) = false) (rel : KV kvs vs) (dd : h'.DictOf (mixKind P w) a vs) :
    ObjOk P w H' h' a (.dK kvs) := ⟨z, hd, vs, rel, dd⟩
/-- d[y] = v -/
theorem d_setItem {H' : Hp} {Q : Unit → Shared → Prop} (hu : A.units + 1 < cLine) (I : Inv X pins σ H s) (g : DPut H a y v H') (ry : RelV y u) (rv : RelV v r) (h : ∀ s', Inv X pins σ H' s' → Q () s') :
    wpAny (model X.prog X.w) A (setItem (.ref a) u r) Q E s := by
  rcases g with ⟨kvs, k, e, ey, l, eH⟩ | ⟨kvs, k, b, e, ey, eb, l, eH⟩
  · subst ey eH
    obtain ⟨z, hd, vs, rel, dd⟩ := dk_of I.hok e
    have hz : vs.length ≤ sizeLine := by rw [← rel.length]; exact z
    have hl : (putK kvs k v).length ≤ sizeLine := by have := length_putK kvs k v; omega
    refine wpAny_setItem_pairs (hsz := hz) (kV_is ry) dd fun h' dd' hs => h _ ?_
    have he : ∃ q, h'.get? a = some q := let ⟨q, _, _, hq, _⟩ := dd'; ⟨q, hq⟩
    exact d_write I (by rw [e]; exact True.intro) hs he (dk_new hl hd (rel.put k rv) dd')
  · subst ey eH
    cases (show u = Value.ref b from ry)
    obtain ⟨z, hd, xs, rel, dd⟩ := dt_of I.hok e
    have hz : xs.length ≤ sizeLine := by rw [← Paired.length rel]; exact z
    have hl : (putK kvs k v).length ≤ sizeLine := by have := length_putK kvs k v; omega
    refine wpAny_setItem_heap (hsz := hz) (tupleKind_room_in1 hu) (key_of I.hok eb) dd fun h' dd' hs => h _ ?_
    obtain ⟨q, es, ep, hq, h2, h3, h4, _, h5⟩ := dd'
    refine d_write I (by rw [e]; exact True.intro) hs ⟨q, hq⟩ ⟨hl, hd, _, (rel.put k eb rv).keeps fun c ys ec => ?_, q, es, ep, hq, h2, h3, h4, h5⟩
    rw [upd_ne (ne_of ec e (fun z => nomatch z))]
    exact ec
end

section
variable {X : Cx} {pins : List (Addr × Obj)} {σ : St} {H : Hp} {s : Shared} {a : Addr} {kvs : List (Key × V)} {k : Key} {u : Value} {A : Around} {E : Value → Shared → Prop}
/-- len(d) -/
theorem d_len {Q : Value → Shared → Prop} (I : Inv X pins σ H s) (e : Rd H a (.dK kvs)) (h : ∀ t s', Inv X pins σ H s' → Q (.int kvs.length t) s') : wpAny (model X.prog X.w) A (call (.builtin "len") [.ref a]) Q E s := by
  obtain ⟨z, hd, vs, rel, dd⟩ := dk_rd I.hok e
  refine call_len_dict hd dd (by rw [← rel.length]; rw [sizeLine_eq] at z; omega) ?_
  rw [← rel.length]
  exact h _ _ (I.tok _)
end


/-! ### readings and rules -/
/-- the element of a subscription, not a slice -/
def NoSl (i : Expr) : Prop := ∀ ov iv, subscripted i false ov iv = operate [ov, iv] (getItem ov iv)
theorem subD_of {prog : Program} {w : World} {A : Around} {E : Value → Shared → Prop} {s : Shared} {env : Env} {value slice : Expr} {pos : Pos} {T id : String} {Q : Value → Shared → Prop}
    (hl : typeLookup (.type T) "__getitem__" = pure (some (.builtin id))) (hs : NoSl slice)
    (h : wpAny (model prog w) A (eval value env) (fun o s₁ => wpAny (model prog w) A (eval slice env) (fun i s₂ => s₂.TypeIs o T ∧ wpAny (model prog w) A (getItem o i) Q E s₂) E s₁) E s) :
    wpAny (model prog w) A (eval (.Subscript value slice pos) env) Q E s := by
  refine Subscript_ (wpAny_mono h (fun o s₁ h₁ => wpAny_mono h₁ (fun i s₂ h₂ => ?_) fun _ _ x => x) fun _ _ x => x)
  obtain ⟨hT, h₂⟩ := h₂
  unfold subscriptTail
  refine wpAny_bind ?_
  rw [getitemInPython_of_ne hT.not_modules]
  refine wpAny_bind (wpAny_specialOf hT hl ?_)
  have fin : wpAny (model prog w) A (subscripted slice false o i) (fun r s₃ => wpAny (model prog w) A (letTemporaryGo value o r >>= fun _ => pure r) Q E s₃) E s₂ := by
    rw [hs o i]
    exact wpAny_operating (wpAny_mono h₂ (fun r s₃ h₃ => wpAny_bind (wpAny_letTemporaryGo (wpAny_pure h₃))) fun _ _ x => x)
  first
    | exact wpAny_pure (wpAny_bind fin)
    | exact wpAny_bind (wpAny_pure (wpAny_bind fin))
    | exact wpAny_bind fin

theorem dict_typeIs {X : Cx} {pins : List (Addr × Obj)} {σ : St} {H : Hp} {s : Shared} {a : Addr} {y : V} {o : Option V} (I : Inv X pins σ H s) (g : DGet H a y o) : s.TypeIs (.ref a) "dict" := by
  rcases g with ⟨kvs, k, e, _, _⟩ | ⟨kvs, k, b, e, _, _, _⟩
  · obtain ⟨_, _, vs, _, dd⟩ := dk_rd I.hok e
    exact dd.typeIs
  · obtain ⟨_, _, xs, _, dd⟩ := dt_rd I.hok e
    exact dd.typeIs
/-- d[y] -/
def tDGet (td ty : TE) : TE := fun σ H Q => td σ H fun x H1 => ty σ H1 fun y H2 => ∃ a v, x = .ref a ∧ DGet H2 a y (some v) ∧ Q v H2
/-- y in d, y not in d -/
def tDIn (ty td : TE) : TE := fun σ H Q => ty σ H fun y H1 => td σ H1 fun x H2 => ∃ a o, x = .ref a ∧ DGet H2 a y o ∧ Q (.bl o.isSome) H2
def tDNotIn (ty td : TE) : TE := fun σ H Q => ty σ H fun y H1 => td σ H1 fun x H2 => ∃ a o, x = .ref a ∧ DGet H2 a y o ∧ Q (.bl (!o.isSome)) H2
/-- d[y] = v -/
def sDPut (td ty tv : TE) : TS := fun D σ H => tv σ H fun v H1 => td σ H1 fun x H2 => ty σ H2 fun y H3 => ∃ a H4, x = .ref a ∧ DPut H3 a y v H4 ∧ D.nx σ H4
section
variable {X : Cx} {o i e value : Expr} {pos pos' tpos : Pos} {td ty tv : TE}
theorem pe_dget (hu : X.A.units + 1 < cLine) (ho : PE X o td) (hi : PE X i ty) (hs : NoSl i) : PE X (.Subscript o i pos) (tDGet td ty) := by
  intro pins s σ H Q I h
  refine subD_of PySem.F.slot_dict_getitem.lookup hs (thn (ho pins s σ H _ I h) fun u s1 ⟨x, H1, I1, rx, q1⟩ => thn (hi pins s1 σ H1 _ I1 q1) fun iv s2 ⟨y, H2, I2, ry, a, v, ex, g, q2⟩ => ?_)
  subst ex
  obtain rfl : u = Value.ref a := rx
  exact ⟨dict_typeIs I2 g, d_getItem hu I2 g ry fun w' s3 I3 rw' => ⟨v, H2, I3, rw', q2⟩⟩
theorem pc_din (hu : X.A.units + 1 < cLine) (hi : PE X i ty) (ho : PE X o td) : PC X .In i o (tDIn ty td) := by
  intro pins s σ H Q I h
  refine thn (hi pins s σ H _ I h) fun iv s1 ⟨y, H1, I1, ry, q1⟩ => thn (ho pins s1 σ H1 _ I1 q1) fun u s2 ⟨x, H2, I2, rx, a, ov, ex, g, q2⟩ => ?_
  subst ex
  obtain rfl : u = Value.ref a := rx
  exact d_in hu I2 g ry fun s3 I3 => ⟨.bl ov.isSome, H2, I3, rfl, q2⟩
theorem pc_dnotin (hu : X.A.units + 1 < cLine) (hi : PE X i ty) (ho : PE X o td) : PC X .NotIn i o (tDNotIn ty td) := by
  intro pins s σ H Q I h
  refine thn (hi pins s σ H _ I h) fun iv s1 ⟨y, H1, I1, ry, q1⟩ => thn (ho pins s1 σ H1 _ I1 q1) fun u s2 ⟨x, H2, I2, rx, a, ov, ex, g, q2⟩ => ?_
  subst ex
  obtain rfl : u = Value.ref a := rx
  exact d_notIn hu I2 g ry fun s3 I3 => ⟨.bl (!ov.isSome), H2, I3, rfl, q2⟩
theorem ps_dput (hu : X.A.units + 1 < cLine) (ho : PE X o td) (hi : PE X i ty) (hv : PE X value tv) (hs : swapsWith value (some (.Subscript o i pos')) pos.line X.env = pure false) :
    PS X (.Assign [.Subscript o i pos'] value pos) (sDPut td ty tv) := by
  intro pins s σ H D I h
  refine wpAny_Assign_Subscript (thn (hv pins s σ H _ I h) fun r s1 ⟨v, H1, I1, rv, q1⟩ => thn (ho pins s1 σ H1 _ I1 q1) fun u s2 ⟨x, H2, I2, rx, q2⟩ => thn (hi pins s2 σ H2 _ I2 q2) fun iv s3 ⟨y, H3, I3, ry, a, H4, ex, g, q3⟩ => ?_) hs
  subst ex
  obtain rfl : u = Value.ref a := rx
  exact d_setItem hu I3 g ry rv fun s4 I4 => ⟨σ, H4, I4, q3⟩
end


/-! ### displays -/
theorem dk_empty {P : Program} {w : World} {H : Hp} (h : Heap) (hb : sysModules < h.objs.size) : ObjOk P w H (h.push { cls := .type "dict", data := .dict #[] }) h.objs.size (.dK []) :=
  ⟨Nat.zero_le _, beq_eq_false_iff_ne.mpr (Ne.symm (Nat.ne_of_lt hb)), [], .nil, Heap.DictOf.new h⟩
/-- {}, to be a dict of the kind that is wanted -/
def tDNewK : TE := fun _ H Q => ∀ p, H p = none → Q (.ref p) (upd H p (.dK []))
section
variable {X : Cx} {pos : Pos}
theorem pe_dnewK : PE X (.Dict [] [] pos) tDNewK := fun pins s σ H Q I h =>
  wpAny_Dict_empty ⟨.ref s.heap.objs.size, _, I.laid (a := s.heap.objs.size) (o := .dK []) (t' := s.toks) (fun _ _ q => Heap.get?_push_of_some _ q) (Nat.le_refl _) (dk_empty s.heap I.big), rfl, h _ (I.hok.fresh (Nat.le_refl _))⟩
end

/-! ### methods -/
/-- a method call o.m(e) of a built-in, with one argument: what must be seen of the text -/
structure M1 (X : Cx) (o : Expr) (m : Str) (apos : Pos) (e : Expr) (cpos : Pos) : Prop where
  base : attributeBase o m X.env (eval o X.env) = eval o X.env
  few : ((backTo cpos (starEach [e] X.env)).all (fun x => !x.1) && (backToKw cpos (keywordEach [] X.env)).all (fun x => x.1.isSome)
    && decide (([e] : List Expr).length + ([] : List Keyword).length + (if ([] : List Keyword).isEmpty then 0 else 1) < 30)) = true
  line : (apos.endLine == cpos.line) = true
  trees : backTo cpos (starEach [e] X.env) = [(false, eval e X.env)]
structure M2 (X : Cx) (o : Expr) (m : Str) (apos : Pos) (e f : Expr) (cpos : Pos) : Prop where
  base : attributeBase o m X.env (eval o X.env) = eval o X.env
  few : ((backTo cpos (starEach [e, f] X.env)).all (fun x => !x.1) && (backToKw cpos (keywordEach [] X.env)).all (fun x => x.1.isSome)
    && decide (([e, f] : List Expr).length + ([] : List Keyword).length + (if ([] : List Keyword).isEmpty then 0 else 1) < 30)) = true
  line : (apos.endLine == cpos.line) = true
  trees : backTo cpos (starEach [e, f] X.env) = [(false, eval e X.env), (false, eval f X.env)]

section
variable {X : Cx} {pins : List (Addr × Obj)} {σ : St} {H : Hp} {s : Shared} {a : Addr} {y d : V} {u r : Value} {o : Option V} {A : Around} {E : Value → Shared → Prop}
end

section
variable {X : Cx} {o e f : Expr} {apos cpos : Pos} {td ty tx : TE}
end

/-! ### dict(d): a copy -/
section
variable {X : Cx} {pins : List (Addr × Obj)} {σ : St} {H : Hp} {s : Shared} {a : Addr} {kvs : List (Key × V)} {A : Around} {E : Value → Shared → Prop}
end


section
variable {X : Cx} {pins : List (Addr × Obj)} {σ : St} {H : Hp} {s : Shared} {a : Addr} {y : V} {u : Value} {A : Around} {E : Value → Shared → Prop}
end
end L2

namespace L2
open PySem PySem.Spec PyProof.Rows

section
variable {prog : Program} {w : World} {A : Around} {E : Value → Shared → Prop}
end

section
variable {X : Cx}
end
end L2

namespace L2
open PySem PySem.Spec PyProof.Rows

theorem boot_reversed5 : bootBuiltins "reversed" = some (.type "reversed") := by decide +kernel

section
variable {X : Cx} {pins : List (Addr × Obj)} {σ : St} {H : Hp} {s : Shared} {h' : Heap}
/-! ### locking a thing while a statement runs -/
theorem Inv.lock {d : Addr} {u : HO} (I : Inv X pins σ H s) (h : H d = some u) (mu : Mut (some u)) : ∃ od, Inv X pins σ (upd H d (.frz od u)) s := by
  have x := I.hok d u h
  have ex : ∃ od, s.heap.get? d = some od := by
    cases u with
    | lst xs => obtain ⟨_, _, _, _, e⟩ := x; exact ⟨_, e⟩
    | dK kvs => obtain ⟨_, _, _, _, o, _, _, e, _⟩ := x; exact ⟨o, e⟩
    | dT kvs => obtain ⟨_, _, _, _, o, _, _, e, _⟩ := x; exact ⟨o, e⟩
    | set S n => obtain ⟨o, _, _, _, e, _⟩ := x; exact ⟨o, e⟩
    | ins C dx fs => obtain ⟨_, _, _, e, _⟩ := x; exact ⟨_, e⟩
    | ext φ => obtain ⟨_, ⟨_, e⟩, _⟩ := x; exact ⟨_, e⟩
    | _ => exact False.elim mu
  obtain ⟨od, e⟩ := ex
  have new : ObjOk X.prog X.w (upd H d (.frz od u)) s.heap d (.frz od u) := by
    refine ⟨e, x.stay (fun b v _ q => q) (fun b q => ?_) fun b xs q => ?_⟩
    · rw [upd_ne (fun z => by rw [z, h] at q; cases q; exact mu)]; exact q
    · rw [upd_ne (fun z => by rw [z, h] at q; cases q; exact mu)]; exact q
  exact ⟨od, I.write (x := d) (e := d) (t' := s.toks) (h' := s.heap) (by rw [h]; exact mu) (.inl rfl) (fun b v _ q => q) ⟨od, e⟩ new⟩
theorem Inv.nofrz {d : Addr} {u : HO} (I : Inv X pins σ H s) (h : H d = some u) (mu : Mut (some u)) : ∀ o' u', X.H_0 d ≠ some (.frz o' u') := fun o' u' e => by
  have q := I.base.frzs d o' u' e
  rw [h] at q
  cases q
  exact mu
theorem Inv.unlock {d : Addr} {od : Obj} {u : HO} (I : Inv X pins σ H s) (h : H d = some (.frz od u)) (hn : ∀ o' u', X.H_0 d ≠ some (.frz o' u')) : Inv X pins σ (upd H d u) s := by
  have neH : ∀ b o, H b = some o → (∀ o' u', o ≠ .frz o' u') → b ≠ d := fun b o e hne z => by
    rw [z, h] at e
    cases e
    exact hne _ _ rfl
  have neN : ∀ b, H b = none → b ≠ d := fun b e z => by rw [z, h] at e; cases e
  refine ⟨I.ok, I.os, I.bare, ⟨I.base.keep, I.base.slot, fun b o e n hx => ?_, I.base.there, fun b xs e => ?_, fun b o x e => ?_, fun b ps e => ?_⟩, I.loc, I.cell, ?_, fun x c e => ?_, fun p hp => ?_, fun b o e => ?_, I.len⟩
  · rw [upd_ne (neN b (I.base.free b o e n hx))]; exact I.base.free b o e n hx
  · have q := I.base.tups b xs e
    rw [upd_ne (neH b _ q (fun _ _ z => nomatch z))]; exact q
  · have q := I.base.frzs b o x e
    rw [upd_ne (fun z => by rw [z] at e; exact hn _ _ e)]; exact q
  · obtain ⟨m, q⟩ := I.base.tbls b ps e
    exact ⟨m, by rw [upd_ne (neH b _ q (fun _ _ z => nomatch z))]; exact q⟩
  · rw [upd_ne (neN _ I.free)]; exact I.free
  · rw [upd_ne (neN c (I.freeC x c e))]; exact I.freeC x c e
  · obtain ⟨e, n, r⟩ := I.pin p hp
    exact ⟨e, by rw [upd_ne (neN _ n)]; exact n, r⟩
  · by_cases hb : b = d
    · rw [hb, upd_same] at e
      cases e
      rw [hb]
      obtain ⟨_, x⟩ := I.hok d _ h
      exact x.stay (fun c v _ q => q) (fun c q => by rw [upd_ne (neH c _ q (fun _ _ z => nomatch z))]; exact q) fun c xs q => by rw [upd_ne (neH c _ q (fun _ _ z => nomatch z))]; exact q
    · rw [upd_ne hb] at e
      exact (I.hok b o e).stay (fun c v _ q => q) (fun c q => by rw [upd_ne (neH c _ q (fun _ _ z => nomatch z))]; exact q) fun c xs q => by rw [upd_ne (neH c _ q (fun _ _ z => nomatch z))]; exact q
end
/-- the statement runs while the thing at d is locked (read, not written); d and what stands there are the reading's choice -/
def tLock (t : TS) : TS := fun D σ H => ∃ d u, H d = some u ∧ Mut (some u) ∧ ∀ od, t ⟨fun σ' H' => H' d = some (.frz od u) ∧ D.nx σ' (upd H' d u), fun v H' => H' d = some (.frz od u) ∧ D.rt v (upd H' d u), fun σ' H' => H' d = some (.frz od u) ∧ D.bk σ' (upd H' d u), fun σ' H' => H' d = some (.frz od u) ∧ D.ct σ' (upd H' d u)⟩ σ (upd H d (.frz od u))
def tLockE (t : TE) : TE := fun σ H Q => ∃ d u, H d = some u ∧ Mut (some u) ∧ ∀ od, t σ (upd H d (.frz od u)) fun v H' => H' d = some (.frz od u) ∧ Q v (upd H' d u)
section
variable {X : Cx}
theorem ps_lock {st : Stmt} {t : TS} (h : PS X st t) : PS X st (tLock t) := by
  intro pins s σ H D I hw
  obtain ⟨d, u, hd, mu, hw⟩ := hw
  obtain ⟨od, I1⟩ := I.lock hd mu
  refine thn (h pins s σ _ _ I1 (hw od)) fun f s1 q => ?_
  cases f with
  | next => obtain ⟨σ', H', I2, e, q⟩ := q; exact ⟨σ', _, I2.unlock e (I.nofrz hd mu), q⟩
  | brk => obtain ⟨σ', H', I2, e, q⟩ := q; exact ⟨σ', _, I2.unlock e (I.nofrz hd mu), q⟩
  | cont => obtain ⟨σ', H', I2, e, q⟩ := q; exact ⟨σ', _, I2.unlock e (I.nofrz hd mu), q⟩
  | ret v => obtain ⟨x, σ', H', I2, r, e, q⟩ := q; exact ⟨x, σ', _, I2.unlock e (I.nofrz hd mu), r, q⟩
theorem pe_lock {e : Expr} {t : TE} (h : PE X e t) : PE X e (tLockE t) := by
  intro pins s σ H Q I hw
  obtain ⟨d, u, hd, mu, hw⟩ := hw
  obtain ⟨od, I1⟩ := I.lock hd mu
  refine thn (h pins s σ _ _ I1 (hw od)) fun v s1 ⟨x, H1, I2, r, e2, q⟩ => ?_
  exact ⟨x, _, I2.unlock e2 (I.nofrz hd mu), r, q⟩

/-! ### one iterator just laid -/
theorem pi_one {tg : Expr} {pins : List (Addr × Obj)} {σ : St} {H : Hp} {s : Shared} {R : It → Hp → Prop} {J : It} {tn : Nat → Heap → Prop} {tk : Nat} (I : Inv X pins σ H s) (o : Obj)
    (T : Turn X.prog X.w X.K tg J [s.heap.objs.size] s.heap.objs.size tn) (st : tn 0 (s.heap.push o)) (q : R J H) : PIE X pins σ tg R (.ref s.heap.objs.size) { s with heap := s.heap.push o, toks := tk } := by
  refine ⟨s.heap.objs.size, [s.heap.objs.size], tn, J, H, rfl, I.kept fun b ob e => Heap.get?_push_of_some _ e, T, st, fun b hb => ?_, q⟩
  have e : b = s.heap.objs.size := by simpa using hb
  subst e
  exact I.fpOk (Nat.le_refl _) (I.hok.fresh (Nat.le_refl _))
end

/-! ### range with a step -/
section
variable {X : Cx} {tg : Expr}
end
/-! ### reversed(list) -/
section
variable {X : Cx} {tg : Expr}
end

/-! ### a str -/
/-! ### a dict's keys: any dict's entries -/
section
variable {prog : Program} {w : World} {A : Around} {E : Value → Shared → Prop} {s : Shared}
theorem iter_keys {d : Addr} {o : Obj} {es : Array DictEntry} {ep : Nat} {Q : Value → Shared → Prop} (hd : (d == sysModules) = false) (ho : s.heap.get? d = some o) (hc : o.ExactDict) (hdat : o.data = .dict es ep)
    (hQ : Q (.ref s.heap.objs.size) { s with heap := s.heap.push { cls := .type "dict_keyiterator", data := .fields #[.ref d, .int 0 0, .int es.size 0, .int ep 0] } }) :
    wpAny (model prog w) A (pyIter (.ref d)) Q E s := by
  have hT : s.TypeIs (.ref d) "dict" := ⟨o, ho, hc.1⟩
  refine wpAny_pyIter_slot hT F.slot_dict_iter (wpAny_call_entry F.slot_dict_iter hT F.entry_dict_iter ?_ (F.args_dict_iter_1 _))
  unfold Builtin.«dict.__iter__»
  refine wpAny_bind ?_
  unfold Builtin.Dict.dictSlotNone
  refine wpAny_bind (wpAny_notOrdered_dict hT ?_)
  show wpAny _ _ (pure (Value.ref d)) _ _ s
  refine wpAny_pure ?_
  show wpAny _ _ (Builtin.Dict.showsAll d >>= _) _ _ s
  unfold Builtin.Dict.showsAll
  rw [if_neg (by rw [hd]; exact Bool.false_ne_true)]
  refine wpAny_bind (wpAny_pure ?_)
  refine wpAny_bind (wpAny_dictEntries ho hdat ?_)
  refine wpAny_bind (wpAny_dictEpoch ho hdat ?_)
  refine wpAny_bind (wpAny_newObj_type (wpAny_pure ⟨_, rfl, "dict_keyiterator", _, ⟨_, Heap.get?_push_size _ rfl, rfl⟩, F.slot_dict_keyiterator_next.lookup, ?_⟩))
  simpa [rawInt] using hQ
theorem next_key_item {it d : Addr} {i n ep : Nat} {od : Obj} {es : Array DictEntry} {en : DictEntry} {Q : Option Value → Shared → Prop} (hit : s.heap.IsKeyIter it d i n ep) (hod : s.heap.get? d = some od) (hdd : od.data = .dict es ep)
    (hsz : es.size = n) (hx : es[i]? = some en) (hQ : ∀ h', h'.IsKeyIter it d (i + 1) n ep → Heap.SameBut it s.heap h' → Q (some en.key) { s with heap := h' }) : wpAny (model prog w) A (pyNext (.ref it)) Q E s := by
  obtain ⟨o, ho, hc, hd⟩ := id hit
  unfold pyNext
  refine wpAny_bind (wpAny_attempt (wpAny_callSpecial?_slot (name := Str.ofString "__next__") hit.typeIs F.slot_dict_keyiterator_next
    (wpAny_call_entry F.slot_dict_keyiterator_next hit.typeIs F.entry_dict_keyiterator_next ?_ (F.args_dict_keyiterator_next_1 _))))
  refine wpAny_bind (wpAny_pure ?_)
  refine wpAny_bind ?_
  refine wpAny_bind ?_
  first | refine wpAny_bind (wpAny_typeNameOfWhole_keyiter hit.typeIs (wpAny_pure ?_)) | refine wpAny_bind (wpAny_typeNameOf_keyiter hit.typeIs (wpAny_pure ?_))
  refine wpAny_bind (wpAny_fieldsOf ho hd ?_)
  have hown : Builtin.Dict_items.ownsTuple "dict_keyiterator" = false := by decide
  simp only [hown, Bool.false_eq_true, if_false]
  show wpAny _ _ (if (Value.ref d == Value.none) = true then _ else _) _ _ s
  rw [if_neg (show ¬ ((Value.ref d == Value.none) = true) from Bool.false_ne_true)]
  refine wpAny_bind (wpAny_pure ?_)
  refine wpAny_bind (wpAny_dictEntries hod hdd ?_)
  rw [if_neg (by rw [hsz]; simp)]
  refine wpAny_bind (wpAny_pure ?_)
  refine wpAny_bind (wpAny_dictEpoch hod hdd ?_)
  rw [if_neg (by simp)]
  refine wpAny_pure ?_
  obtain ⟨hlt', hen⟩ := Array.getElem?_eq_some_iff.mp hx
  simp only [show ¬ ((i : Int) < 0) from by omega, if_false, Int.toNat_natCast, Array.getElem?_eq_getElem hlt']
  refine wpAny_bind ?_
  first | refine wpAny_bind (wpAny_typeNameOfWhole_keyiter hit.typeIs (wpAny_pure ?_)) | refine wpAny_bind (wpAny_typeNameOf_keyiter hit.typeIs (wpAny_pure ?_))
  refine wpAny_bind (wpAny_isOneOf_keyiter hit.typeIs ?_)
  show wpAny _ _ (setField (.ref it) 1 (rawInt ((i : Int) + 1)) >>= _) _ _ s
  refine wpAny_bind (wpAny_setField ho hd (by simp) ?_)
  have hit' : (s.heap.update it (Obj.mapFields (·.setIfInBounds 1 (rawInt ((i : Int) + 1))))).IsKeyIter it d (i + 1) n ep :=
    ⟨_, Heap.get?_update_self _ ho (Obj.isFreed_of_fields (Obj.data_mapFields hd _)), (Obj.cls_mapFields ..).trans hc, by rw [Obj.data_mapFields hd]; simp [rawInt]⟩
  refine wpAny_bind (wpAny_holding ?_)
  refine wpAny_bind (wpAny_isOneOf_keyiter (s := { s with heap := s.heap.update it (Obj.mapFields (·.setIfInBounds 1 (rawInt ((i : Int) + 1)))) }) hit'.typeIs ?_)
  show wpAny _ _ (pure es[i].key) _ _ _
  rw [hen]
  exact wpAny_pure (wpAny_pure ⟨_, rfl, wpAny_pure (hQ _ hit' (Heap.SameBut.update ..))⟩)
theorem next_key_end {it d : Addr} {i n ep : Nat} {od : Obj} {es : Array DictEntry} {Q : Option Value → Shared → Prop} (hh : A.handled = none) (hit : s.heap.IsKeyIter it d i n ep) (hod : s.heap.get? d = some od) (hdd : od.data = .dict es ep)
    (hsz : es.size = n) (hge : n ≤ i) (hQ : ∀ h', Heap.ExtBut it s.heap h' → Q none { s with heap := h' }) : wpAny (model prog w) A (pyNext (.ref it)) Q E s := by
  obtain ⟨o, ho, hc, hd⟩ := id hit
  unfold pyNext
  refine wpAny_bind (wpAny_attempt (wpAny_callSpecial?_slot (name := Str.ofString "__next__") hit.typeIs F.slot_dict_keyiterator_next
    (wpAny_call_entry F.slot_dict_keyiterator_next hit.typeIs F.entry_dict_keyiterator_next ?_ (F.args_dict_keyiterator_next_1 _))))
  refine wpAny_bind (wpAny_pure ?_)
  refine wpAny_bind ?_
  refine wpAny_bind ?_
  first | refine wpAny_bind (wpAny_typeNameOfWhole_keyiter hit.typeIs (wpAny_pure ?_)) | refine wpAny_bind (wpAny_typeNameOf_keyiter hit.typeIs (wpAny_pure ?_))
  refine wpAny_bind (wpAny_fieldsOf ho hd ?_)
  have hown : Builtin.Dict_items.ownsTuple "dict_keyiterator" = false := by decide
  simp only [hown, Bool.false_eq_true, if_false]
  show wpAny _ _ (if (Value.ref d == Value.none) = true then _ else _) _ _ s
  rw [if_neg (show ¬ ((Value.ref d == Value.none) = true) from Bool.false_ne_true)]
  refine wpAny_bind (wpAny_pure ?_)
  refine wpAny_bind (wpAny_dictEntries hod hdd ?_)
  rw [if_neg (by rw [hsz]; simp)]
  refine wpAny_bind (wpAny_pure ?_)
  refine wpAny_bind (wpAny_dictEpoch hod hdd ?_)
  rw [if_neg (by simp)]
  refine wpAny_pure ?_
  have hge' : es.size ≤ i := by rw [hsz]; exact hge
  simp only [show ¬ ((i : Int) < 0) from by omega, if_false, Int.toNat_natCast, Array.getElem?_eq_none hge']
  refine wpAny_bind ?_
  first | refine wpAny_bind (wpAny_typeNameOfWhole_keyiter hit.typeIs (wpAny_pure ?_)) | refine wpAny_bind (wpAny_typeNameOf_keyiter hit.typeIs (wpAny_pure ?_))
  show wpAny _ _ (setField (.ref it) 0 .none >>= _) _ _ s
  refine wpAny_bind (wpAny_setField ho hd (by simp) ?_)
  show wpAny _ _ (newExc (.type "StopIteration") [] >>= _) _ _ _
  refine wpAny_bind ?_
  simp only [newExc, newTuple]
  refine wpAny_bind (wpAny_newObj_type ?_ (by size_fits))
  refine wpAny_bind (m := firstArgMember _ _) (wpAny_of_eq (a := Value.none) (by first | rfl | (simp only [firstArgMember]; rfl)) ?_)
  refine wpAny_newObj_type ?_ (by size_fits)
  simp only [raiseNew]
  refine wpAny_bind (wpAny_handled ?_)
  rw [show A.in1.handled = none from hh]
  refine wpAny_bind (wpAny_pure (wpAny_throw ?_))
  refine wpAny_bind (wpAny_isInstance (T := "StopIteration") (b := true) ⟨_, Heap.get?_push_size _ rfl, rfl⟩ isSubtype_stop ?_)
  exact wpAny_pure (hQ _ (((Heap.SameBut.update ..).extBut.push _).push _))
end

/-! ### a locked dict -/
theorem kv_get {κ : Type} {kvs : List (κ × V)} {vs : List (κ × Value)} (h : KV kvs vs) : ∀ {i : Nat} {k : κ} {v : V}, kvs[i]? = some (k, v) → ∃ u, vs[i]? = some (k, u) ∧ RelV v u := by
  unfold KV at h
  induction h with
  | nil => intro i k v e; simp at e
  | @cons a b l₁ l₂ r t ih =>
    intro i k v e
    cases i with
    | zero =>
      simp only [List.getElem?_cons_zero, Option.some.injEq] at e
      subst e
      refine ⟨b.2, ?_, r.2⟩
      simp only [List.getElem?_cons_zero]
      exact congrArg some (Prod.ext r.1.symm rfl)
    | succ j =>
      simp only [List.getElem?_cons_succ] at e ⊢
      exact ih e
theorem paired_get {α β : Type} {G : α → β → Prop} {l₁ : List α} {l₂ : List β} (h : Paired G l₁ l₂) : ∀ {i : Nat} {a : α}, l₁[i]? = some a → ∃ b, l₂[i]? = some b ∧ G a b := by
  induction h with
  | nil => intro i a e; simp at e
  | @cons a b l₁ l₂ r t ih =>
    intro i a' e
    cases i with
    | zero =>
      simp only [List.getElem?_cons_zero, Option.some.injEq] at e
      subst e
      exact ⟨b, rfl, r⟩
    | succ j =>
      simp only [List.getElem?_cons_succ] at e ⊢
      exact ih e
theorem relV_key {k : Key} {u : Value} (h : keyIs k u = true) : RelV (kV k) u := by
  rcases keyIs_shape h with ⟨i, t, rfl, rfl⟩ | ⟨x, t, rfl, rfl⟩
  · exact ⟨t, rfl⟩
  · exact ⟨t, rfl⟩
section
variable {X : Cx} {pins : List (Addr × Obj)} {σ : St} {H : Hp} {s : Shared} {d : Addr} {o : Obj}
theorem Inv.frzK {kvs : List (Key × V)} (I : Inv X pins σ H s) (h : H d = some (.frz o (.dK kvs))) :
    (d == sysModules) = false ∧ s.heap.get? d = some o ∧ o.ExactDict ∧ ∃ (es : Array DictEntry) (ep : Nat) (vs : List (Key × Value)), o.data = .dict es ep ∧ es.size = kvs.length ∧ KV kvs vs ∧ s.heap.DictAt (mixKind X.prog X.w) d vs ep := by
  obtain ⟨hd, z, hs, vs, kv, o', es, ep, ho, hx, hdt, r⟩ := I.hok d _ h
  rw [hd] at ho
  cases ho
  refine ⟨hs, hd, hx, es, ep, vs, hdt, ?_, kv, o, es, hd, hx, hdt, r⟩
  have l1 := r.2.1.length
  have l2 : kvs.length = vs.length := Paired.length kv
  rw [Array.length_toList] at l1
  omega
/-- the same for tuple keys -/
theorem Inv.frzT {kvs : List (List Key × V)} (I : Inv X pins σ H s) (h : H d = some (.frz o (.dT kvs))) :
    (d == sysModules) = false ∧ s.heap.get? d = some o ∧ o.ExactDict ∧ ∃ (es : Array DictEntry) (ep : Nat), o.data = .dict es ep ∧ es.size = kvs.length ∧
      ∀ (i : Nat) (k : List Key) (v : V), kvs[i]? = some (k, v) → ∃ (en : DictEntry) (q : Addr), es[i]? = some en ∧ en.key = .ref q ∧ H q = some (.tup (k.map kV)) := by
  obtain ⟨hd, z, hs, xs, pr, o', es, ep, ho, hx, hdt, he, _⟩ := I.hok d _ h
  rw [hd] at ho
  cases ho
  refine ⟨hs, hd, hx, es, ep, hdt, ?_, fun i k v e => ?_⟩
  · have l1 : es.size = xs.length := size_of_entries he
    have l2 : kvs.length = xs.length := Paired.length pr
    omega
  · obtain ⟨b, hb, e1, e2, _⟩ := paired_get pr e
    have q := entry_at he i
    rw [hb] at q
    exact ⟨_, b.2.1, q, rfl, e2⟩
end

/-- the keys of the locked dict at d, in their order -/
def Itk (d : Addr) (o : Obj) (kvs : List (Key × V)) : It :=
  ⟨fun i H => H d = some (.frz o (.dK kvs)) ∧ i < kvs.length, fun i H x H' => H' = H ∧ ∃ k v, kvs[i]? = some (k, v) ∧ x = kV k, fun i H => H d = some (.frz o (.dK kvs)) ∧ kvs.length ≤ i⟩
/-- .. of tuple keys: the key's own tuple -/
def Itkt (d : Addr) (o : Obj) (kvs : List (List Key × V)) : It :=
  ⟨fun i H => H d = some (.frz o (.dT kvs)) ∧ i < kvs.length, fun i H x H' => H' = H ∧ ∃ (k : List Key) (v : V) (q : Addr), kvs[i]? = some (k, v) ∧ x = .ref q ∧ H q = some (.tup (k.map kV)), fun i H => H d = some (.frz o (.dT kvs)) ∧ kvs.length ≤ i⟩
theorem dict_ep {o : Obj} {es es' : Array DictEntry} {ep ep' : Nat} (h : o.data = .dict es ep) (h' : o.data = .dict es' ep') : es' = es ∧ ep' = ep := by
  rw [h] at h'
  cases h'
  exact ⟨rfl, rfl⟩
section
variable {P : Program} {w : World} {K : PySem.W.Frag} {tg : Expr} {d : Addr} {o : Obj} {es : Array DictEntry} {ep : Nat}
theorem turn_keys {kvs : List (Key × V)} (it : Addr) (hod : o.data = .dict es ep) : Turn P w K tg (Itk d o kvs) [it] it (fun i h => h.IsKeyIter it d i kvs.length ep) where
  mem := by simp
  obj := fun i h st b hb => by
    have e : b = it := by simpa using hb
    subst e
    obtain ⟨oi, e, c, dd⟩ := st
    exact ⟨oi, e, fun v z => by rw [dd] at z; cases z⟩
  keep := fun i h h' st k => st.at fun oi e => k it (by simp) oi e
  item := by
    intro X hP hw hK hc i pins s σ H E I hf st hg
    subst hP hw hK
    obtain ⟨hd, hi⟩ := hg
    obtain ⟨f0, f1, f2, f3, f4, f5⟩ := hf it (by simp)
    obtain ⟨hs, hgd, hx, es', ep', vs, hdt, hsz, kv, hm⟩ := I.frzK hd
    obtain ⟨rfl, rfl⟩ := dict_ep hod hdt
    obtain ⟨⟨k, v⟩, hkv⟩ : ∃ p, kvs[i]? = some p := ⟨kvs[i], List.getElem?_eq_getElem hi⟩
    obtain ⟨u, hu, ru⟩ := kv_get kv hkv
    have hl : kvs.length = vs.length := Paired.length kv
    rw [hl] at st
    refine wpAny_pyNext_dict_item st hm hu fun key h' hkey st' sb => ?_
    have I1 : Inv X pins σ H { s with heap := h' } := I.turned (t' := s.toks) (fun b ob hb e => (sb.2 b hb).trans e) f0 f1 f3 f4 f5
    obtain ⟨oi, e, c, dd⟩ := id st'
    refine ⟨key, rfl, go_of (s := { s with heap := h' }) e c dd (by decide) ⟨kV k, H, I1, relV_key (show keyIs k key = true from hkey), ⟨rfl, k, v, hkv, rfl⟩, ?_, fun b hb => (hf b hb).1⟩⟩
    show h'.IsKeyIter it d (i + 1) kvs.length _
    rw [hl]
    exact st'
  done := by
    intro X hP hw hK hc i pins s σ H E I hf st hg
    subst hP hw hK
    obtain ⟨hd, hi⟩ := hg
    obtain ⟨f0, f1, f2, f3, f4, f5⟩ := hf it (by simp)
    obtain ⟨hs, hgd, hx, es', ep', vs, hdt, hsz, kv, hm⟩ := I.frzK hd
    obtain ⟨rfl, rfl⟩ := dict_ep hod hdt
    exact next_key_end (I.ok.hd hc) st hgd hdt hsz hi fun h' eb => ⟨rfl, I.turned (t' := s.toks) (fun b ob hb e => eb b ob hb e) f0 f1 f3 f4 f5⟩
  self := fun A i s Q E st h => wpAny_pyIter_keyiter st h
theorem turn_keysT {kvs : List (List Key × V)} (it : Addr) (hod : o.data = .dict es ep) : Turn P w K tg (Itkt d o kvs) [it] it (fun i h => h.IsKeyIter it d i kvs.length ep) where
  mem := by simp
  obj := fun i h st b hb => by
    have e : b = it := by simpa using hb
    subst e
    obtain ⟨oi, e, c, dd⟩ := st
    exact ⟨oi, e, fun v z => by rw [dd] at z; cases z⟩
  keep := fun i h h' st k => st.at fun oi e => k it (by simp) oi e
  item := by
    intro X hP hw hK hc i pins s σ H E I hf st hg
    subst hP hw hK
    obtain ⟨hd, hi⟩ := hg
    obtain ⟨f0, f1, f2, f3, f4, f5⟩ := hf it (by simp)
    obtain ⟨hs, hgd, hx, es', ep', hdt, hsz, ent⟩ := I.frzT hd
    obtain ⟨rfl, rfl⟩ := dict_ep hod hdt
    obtain ⟨⟨k, v⟩, hkv⟩ : ∃ p, kvs[i]? = some p := ⟨kvs[i], List.getElem?_eq_getElem hi⟩
    obtain ⟨en, q, hen, hkey, hq⟩ := ent i k v hkv
    refine next_key_item st hgd hdt hsz hen fun h' st' sb => ?_
    have I1 : Inv X pins σ H { s with heap := h' } := I.turned (t' := s.toks) (fun b ob hb e => (sb.2 b hb).trans e) f0 f1 f3 f4 f5
    obtain ⟨oi, e, c, dd⟩ := id st'
    exact ⟨en.key, rfl, go_of (s := { s with heap := h' }) e c dd (by decide) ⟨.ref q, H, I1, hkey, ⟨rfl, k, v, q, hkv, rfl, hq⟩, st', fun b hb => (hf b hb).1⟩⟩
  done := by
    intro X hP hw hK hc i pins s σ H E I hf st hg
    subst hP hw hK
    obtain ⟨hd, hi⟩ := hg
    obtain ⟨f0, f1, f2, f3, f4, f5⟩ := hf it (by simp)
    obtain ⟨hs, hgd, hx, es', ep', hdt, hsz, ent⟩ := I.frzT hd
    obtain ⟨rfl, rfl⟩ := dict_ep hod hdt
    exact next_key_end (I.ok.hd hc) st hgd hdt hsz hi fun h' eb => ⟨rfl, I.turned (t' := s.toks) (fun b ob hb e => eb b ob hb e) f0 f1 f3 f4 f5⟩
  self := fun A i s Q E st h => by
    refine wpAny_pyIter_slot st.typeIs F.slot_dict_keyiterator_iter (wpAny_call_entry F.slot_dict_keyiterator_iter st.typeIs F.entry_dict_keyiterator_iter ?_ (F.args_dict_keyiterator_iter_1 _))
    show wpAny _ _ (ret (.ref it)) _ _ s
    exact wpAny_pure ⟨_, rfl, "dict_keyiterator", _, st.typeIs, F.slot_dict_keyiterator_next.lookup, h⟩
end

/-! ### for k in d, d.keys(), d.values(), d.items() -/
/-- the dict is locked (tLock, or by the caller) -/
def iKeys (td : TE) : TI := fun σ H R => td σ H fun x H1 => ∃ d o, x = .ref d ∧ ((∃ kvs, H1 d = some (.frz o (.dK kvs)) ∧ R (Itk d o kvs) H1) ∨ ∃ kvs, H1 d = some (.frz o (.dT kvs)) ∧ R (Itkt d o kvs) H1)
section
variable {X : Cx} {tg e : Expr} {td : TE} {apos cpos : Pos}
theorem pi_keys (he : PE X e td) : PI X tg e (iKeys td) := by
  intro pins s σ H R I h
  refine thn (he pins s σ H _ I h) fun u s1 ⟨x, H1, I1, rx, d, o, ex, q⟩ => ?_
  subst ex
  obtain rfl : u = Value.ref d := rx
  rcases q with ⟨kvs, hd, q⟩ | ⟨kvs, hd, q⟩
  · obtain ⟨hs, hgd, hx, es, ep, vs, hdt, hsz, kv, hm⟩ := I1.frzK hd
    refine iter_keys hs hgd hx hdt (pi_one (tk := s1.toks) I1 _ (turn_keys _ hdt) ⟨_, Heap.get?_push_size _ rfl, rfl, ?_⟩ q)
    rw [hsz] <;> rfl
  · obtain ⟨hs, hgd, hx, es, ep, hdt, hsz, ent⟩ := I1.frzT hd
    refine iter_keys hs hgd hx hdt (pi_one (tk := s1.toks) I1 _ (turn_keysT _ hdt) ⟨_, Heap.get?_push_size _ rfl, rfl, ?_⟩ q)
    rw [hsz] <;> rfl
end

/-! ### enumerate(list) -/
/-! ### zip(list, list) -/
end L2

section 
namespace Bits
open PySem PyProof.Rows

end Bits
end 

section 
namespace TL
open PySem PySem.Builtin PySem.Builtin.Str PySem.StrLaws

/-! ### the list functions -/
/-- S stands at the head of l -/
def pre (S l : List Nat) : Bool := l.take S.length == S
/-- what stands before the first S, and behind it -/
def par (S : List Nat) : List Nat → List Nat → Option (List Nat × List Nat)
  | _, [] => none
  | acc, c :: r => if pre S (c :: r) = true then some (acc, (c :: r).drop S.length) else par S (acc ++ [c]) r

/-! ### the model's split and partition are these -/
/-! ### computing spl and par -/
/-! ### digits -/
/-! ### words: x.split() -/
end TL
end 

namespace L2
open PySem PySem.Spec PyProof.Rows

section
variable {X : Cx} {pins : List (Addr × Obj)} {σ : St} {H : Hp} {s : Shared} {Q : VK}
end

section
variable {X : Cx}

/-! ### of a text alone -/
/-! ### of a text and a text -/
end

section
variable {X : Cx} {o e : Expr} {to te : TE}
end
end L2

namespace L2
open PySem PySem.Spec PyProof.Rows

section
variable {X : Cx}
end

/-! ### slices of a text -/
end L2

namespace Att
open PySem PySem.W PySem.Calls PyProof.Rows

/-! ### the script -/
/-! ### the attachment: holds_open's last premise (the goal 'hc' behind k_head) from a wpAny of the law's body -/
/-! ### rules over ANY heap (no ledger) from facts about the written part K: the library's own take a ledger (News) for what they write -/
section
variable {prog : Program} {w : World} {A : Around} {E : Value → Shared → Prop} {s : Shared} {K : Frag}

/-! the whole heap as the ledger: makes every rule that writes through a ledger a rule over any heap -/
end
end Att

namespace L2
open PySem PySem.Spec PyProof.Rows

end L2

namespace L2
open PySem PySem.Spec PyProof.Rows

end L2

/- THE LAST THEOREM (shape; LID, My.* are yours):
   My.Adr: a structure of the addresses that your layer names (classes, functions); My.Txt K t: a structure (Prop) of the equations over K;
   My.txt_mk : {K} {implicit addresses ..} (e1 : nsIn K mainGlobals "law" = some (some (.ref f))) (e2 : K.lookup f = some ⟨oc, od, .func (fnOf "law" "law" params body scope dV kV doc pm an cdv ct), sl⟩) (e3 : codeIn K cdv "law" = true) .. : ∃ t, My.Txt K t

set_option maxRecDepth 100000 in
set_option maxHeartbeats 0 in
theorem PySem.Challenge.cw_LID_holds : PySem.Challenge.rw_LID.Holds := by
  w_on; o_law; k_head; (case hw => w_witness2)
  k_fill
  refine L2.walk_of (l := PySem.Challenge.rw_LID) (n := 63) (k := 40) (x := "script") (CX := fun w => ..) (sp := fun _ => My.sp_law) rfl (by decide) rfl ⟨rfl, by decide, by decide⟩ (fun w h Y => PySem.W.kIn_of Y) ?F ?S ?C
  case F =>
    intro w mg fa h KX G hmg
    have T : ∃ t, My.Txt (L2.KOf KX) t := by
      dsimp only [L2.KOf]                          -- K must stand as «<heap const> w.params» for k_is
      refine' My.txt_mk ?e1 ?e2 ?e3 ..
      (case e1 => PySem.W.k_is)                    -- in the order: a name -> its address -> its object -> its parts
      (case e2 => PySem.W.k_is)
      ..
    obtain ⟨t, T⟩ := T
    have e0 := hmg.symm.trans (PySem.W.mg_of KX G T.law)
    cases e0                                       -- fa is the law's own address
    exact ⟨_, fun s u => .of_eq rfl, fun base kb nb => My.law_fn T kb nb⟩     -- if «.of_eq rfl» comes too early: refine' ⟨_, ?b, fun base kb nb => My.law_fn T kb nb⟩; exact fun s u => .of_eq rfl
  case S => exact fun w H a ns hl hO hS => ..
  case C => exact ..
(the tactic k_is has no namespace: write k_is) -/

/-! SHORT WORDS over the layer: a def of the text, its body, what a loop and a test want. -/
namespace L2
open PySem PySem.Spec PyProof.Rows

/-! ### the text by places -/
/-- the j-th statement of a class's body -/
def inClass (s : Stmt) (j : Nat) : Stmt := match s with
  | .ClassDef _ _ _ body _ _ _ _ _ _ _ => body.getD j (.Pass ⟨0, 0, 0, 0⟩)
  | _ => .Pass ⟨0, 0, 0, 0⟩
def defArgs (s : Stmt) : Arguments := match s with
  | .FunctionDef _ a _ _ _ _ _ _ _ _ => a
  | _ => { posonlyargs := [], args := [], vararg := none, kwonlyargs := [], kw_defaults := [], kwarg := none, defaults := [] }
def defBody (s : Stmt) : List Stmt := match s with
  | .FunctionDef _ _ b _ _ _ _ _ _ _ => b
  | _ => []
def defScope (s : Stmt) : Scope := match s with
  | .FunctionDef _ _ _ _ _ _ sc _ _ _ => sc
  | _ => { kind := .function, names := [], isGenerator := false, isCoroutine := false }

/-! ### no exception leaves a def -/
abbrev CX0 : CXT := fun _ _ _ _ _ _ => False
abbrev E0 : XK := fun _ _ _ => False
theorem pass0 {X : Cx} : Passes CX0 X E0 := fun _ _ _ _ _ _ _ h => h.elim

/-! ### a def (or method) of the text as it stands behind the top -/
structure Fun (K : PySem.W.Frag) (x qual : Str) (st : Stmt) (f : Addr) (fd : FuncData) : Prop where
  ex : ∃ (oc : Value) (od : Option Addr) (kV doc pm : Value) (an : Option Addr) (cdv ct : Value) (osl : Array (Option Value)),
    fd = PySem.W.fnOf x qual (defArgs st) (defBody st) (defScope st) .none kV doc pm an cdv ct ∧ K.lookup f = some ⟨oc, od, .func fd, osl⟩ ∧ PySem.W.codeIn K cdv qual = true
  kp : PySem.W.keepIn K (.ref f) = true
section
variable {P : Program} {w : World} {K : PySem.W.Frag} {mg : Str → Option Value} {base : Heap}
/-- THE RULE for a def: its body as a term of rules, and the reading of that term -/
theorem Fun.ok {x qual : Str} {st : Stmt} {f : Addr} {fd : FuncData} {N ps : List Str} {k : Nat} {sp : Sp} (F : Fun K x qual st f fd) (S : FnScope N ps (defScope st)) (len : ∀ vs H Q E, sp vs H Q E → vs.length = ps.length)
    (hbody : ∀ (cdv : Value) (A : Around) (outer : List Env) (s : Shared) (H : Hp) (vs : List V) (Q : VK) (E : XK), Room k (A.deeper (envOfC qual (defScope st) s.heap.objs.size f cdv)) → sp vs H Q E →
      ∃ t, PSs (cxOf CX0 P w K mg base N qual (defScope st) f cdv A outer s H E).nox (defBody st) t ∧ t { nx := fun _ H' => Q .non H', rt := Q } (start N vs) H) : FnOk P w K mg base CX0 (k + 1) f fd ps sp := by
  obtain ⟨oc, od, kV, doc, pm, an, cdv, ct, osl, rfl, lk, hcd⟩ := F.ex
  refine fn_of lk hcd S len fun A outer s H vs Q E hr hsp => ?_
  obtain ⟨t, h, q⟩ := hbody cdv A outer s H vs Q E hr hsp
  exact ⟨t, h.nox, q⟩
/-- how its arguments bind (no defaults): h is «fun _ _ _ _ _ _ us hl => match us, hl with | [_, _], _ => rfl», one _ a parameter -/
theorem Fun.binds {x qual : Str} {st : Stmt} {f : Addr} {fd : FuncData} {ps : List Str} (F : Fun K x qual st f fd)
    (h : ∀ (kV doc pm : Value) (an : Option Addr) (cdv ct : Value) (us : List Value), us.length = ps.length → bindArgs (PySem.W.fnOf x qual (defArgs st) (defBody st) (defScope st) .none kV doc pm an cdv ct) ⟨us, []⟩ = pure (ps.zip us)) : Binds K fd ps [] := by
  obtain ⟨oc, od, kV, doc, pm, an, cdv, ct, osl, rfl, lk, hcd⟩ := F.ex
  exact .all (h kV doc pm an cdv ct)
theorem fun_mk {x qual : Str} {st : Stmt} {f : Addr} {oc : Value} {od an : Option Addr} {osl : Array (Option Value)} {kV doc pm cdv ct : Value} (l : K.lookup f = some ⟨oc, od, .func (PySem.W.fnOf x qual (defArgs st) (defBody st) (defScope st) .none kV doc pm an cdv ct), osl⟩)
    (c : PySem.W.codeIn K cdv qual = true) (k : PySem.W.keepIn K (.ref f) = true) : Fun K x qual st f (PySem.W.fnOf x qual (defArgs st) (defBody st) (defScope st) .none kV doc pm an cdv ct) := ⟨⟨oc, od, kV, doc, pm, an, cdv, ct, osl, rfl, l, c⟩, k⟩
end
theorem hu_of {A : Around} {k : Nat} (hr : Room k A) : A.units + 1 < cLine := Nat.lt_of_le_of_lt (Nat.add_le_add_left (by decide : 1 ≤ 64) _) hr.units
/-! ### expressions in short: the name that stands in the i-th slot -/
section
variable {X : Cx}
theorem pv (i : Nat) {x : Str} {pos : Pos} (hN : X.N[i]? = some x := by rfl) (hv : Vis X.env.scope x := by first | exact Or.inl rfl | exact Or.inr (Or.inl rfl) | exact Or.inr (Or.inr rfl)) (hd : (x == ("__debug__" : Str)) = false := by decide)
    (hcd : (x == ("__classdict__" : Str)) = false := by decide) : PE X (.Name x pos) (tVar i) := pe_var hN hv hd hcd
/-- len of a dict -/
theorem call_lenD : CallR X (.builtin "len") (fun xs H Q => ∃ a kvs, xs = [V.ref a] ∧ H a = some (.dK kvs) ∧ Q (.int kvs.length) H) := by
  intro pins s σ H xs us Q I r h
  obtain ⟨a, kvs, rfl, ha, q⟩ := h
  obtain ⟨u, rfl, ru⟩ := vals1 r
  cases ru
  exact d_len I (.inl ha) fun t s' I' => ⟨.int kvs.length, H, I', ⟨t, rfl⟩, q⟩
end

/-! ### tests -/
theorem iteF {A B : Prop} (h : B) : if false = true then A else B := by
  rw [if_neg Bool.false_ne_true]
  exact h
theorem iteT {A B : Prop} (h : A) : if true = true then A else B := by
  rw [if_pos rfl]
  exact h
theorem ite2 {c A B : Prop} [Decidable c] (h1 : c → A) (h2 : ¬ c → B) : if c then A else B := by
  by_cases h : c
  · rw [if_pos h]
    exact h1 h
  · rw [if_neg h]
    exact h2 h
/-! ### heaps -/
/-- all that was tracked is as it was -/
def Same (H H' : Hp) : Prop := ∀ b o, H b = some o → H' b = some o
theorem Same.refl (H : Hp) : Same H H := fun _ _ h => h
theorem Same.trans {H H1 H2 : Hp} (a : Same H H1) (b : Same H1 H2) : Same H H2 := fun c o h => b c o (a c o h)
theorem Same.free {H H' : Hp} (e : Same H H') {l : Addr} (h : H' l = Option.none) : H l = Option.none := by
  cases q : H l with
  | none => rfl
  | some o =>
    rw [e l o q] at h
    cases h
theorem Same.seq {K : PySem.W.Frag} {H H' : Hp} {a : Addr} {xs : List V} (e : Same H H') (h : SqL K H a xs) : SqL K H' a xs := by
  rcases h with (h | ⟨o, h⟩) | h
  · exact .inl (.inl (e _ _ h))
  · exact .inl (.inr ⟨o, e _ _ h⟩)
  · exact .inr h

/-! ### a dict's pairs: keys that differ -/
section
variable {κ : Type} [DecidableEq κ]
theorem nd_snoc : ∀ {l : List κ} {k : κ}, l.Nodup → ¬ k ∈ l → (l ++ [k]).Nodup
  | [], k, _, _ => by simp
  | a :: r, k, h, hk => by
    obtain ⟨h1, h2⟩ := List.nodup_cons.mp h
    show (a :: (r ++ [k])).Nodup
    refine List.nodup_cons.mpr ⟨fun m => ?_, nd_snoc h2 fun m => hk (List.mem_cons.mpr (Or.inr m))⟩
    rcases List.mem_append.mp m with q | q
    · exact h1 q
    · exact hk (List.mem_cons.mpr (Or.inl (List.mem_singleton.mp q).symm))
end
/-! ### lists -/
theorem nd_ix {α : Type} {l : List α} (hN : l.Nodup) {i j : Nat} {x : α} (a : l[i]? = some x) (b : l[j]? = some x) : i = j := by
  obtain ⟨h1, e1⟩ := List.getElem?_eq_some_iff.mp a
  obtain ⟨h2, e2⟩ := List.getElem?_eq_some_iff.mp b
  exact (List.getElem_inj hN).mp (e1.trans e2.symm)
end L2

section
set_option linter.all false
set_option maxRecDepth 100000
set_option maxHeartbeats 2000000
namespace L2
open PySem PySem.Spec PyProof.Rows
open PySem.W (WData Codec OpenSpec Well WellAll ReadsW ReadsAllW)
/-! ### an answer as data -/
mutual
/-- x stands for the datum d, lists and tuples all the way -/
inductive Dw (K : PySem.W.Frag) (H : Hp) : V → WData → Prop
  | non : Dw K H .non .none
  | bl (b : Bool) : Dw K H (.bl b) (.bool b)
  | int (i : Int) : Dw K H (.int i) (.int i)
  | str (x : Str) : Dw K H (.str x) (.str x)
  | byt (b : Array UInt8) : Dw K H (.byt b) (.bytes b.toList)
  | lst {a : Addr} {xs : List V} {ds : List WData} : SqL K H a xs → DwAll K H xs ds → Dw K H (.ref a) (.list ds)
  | tup {a : Addr} {xs : List V} {ds : List WData} : SqT K H a xs → DwAll K H xs ds → Dw K H (.ref a) (.tuple ds)
inductive DwAll (K : PySem.W.Frag) (H : Hp) : List V → List WData → Prop
  | nil : DwAll K H [] []
  | cons {v : V} {vs : List V} {d : WData} {ds : List WData} : Dw K H v d → DwAll K H vs ds → DwAll K H (v :: vs) (d :: ds)
end
theorem dw_ints {K : PySem.W.Frag} {H : Hp} : ∀ ns : List Int, DwAll K H (ns.map V.int) (ns.map WData.int)
  | [] => .nil
  | n :: r => .cons (.int n) (dw_ints r)
theorem ints_dw {K : PySem.W.Frag} {H : Hp} : ∀ (ns : List Int) (xs : List V), DwAll K H xs (ns.map WData.int) → xs = ns.map V.int
  | [], xs, h => by
    cases h
    rfl
  | n :: r, xs, h => by
    cases h with
    | cons h1 h2 =>
      cases h1
      rw [ints_dw r _ h2] <;> rfl
section
variable {P : Program} {w : World} {K : PySem.W.Frag} {H : Hp} {h : Heap} {R : PySem.W.WRecords} {cl : Str → Option Addr}
theorem sqL_at {a : Addr} {xs : List V} (hok : HOk P w H h) (KX : K.In h) (q : SqL K H a xs) : ∃ (its : List Value) (o : Obj) (n : Nat), Vals xs its ∧ h.get? a = some o ∧ o.cls = .type "list" ∧ o.data = .seq its.toArray n := by
  rcases q with q | ⟨o, its, n, e, hc, _, hd, _, hv⟩
  · obtain ⟨_, its, n, hv, e⟩ := (show ObjOk P w H h a (.lst xs) from q.ok hok)
    exact ⟨its, _, n, hv, e, rfl, rfl⟩
  · exact ⟨its.toList, o, n, hv, KX _ _ e, hc, by simp [hd]⟩
theorem sqT_at {a : Addr} {xs : List V} (hok : HOk P w H h) (KX : K.In h) (q : SqT K H a xs) : ∃ (its : List Value) (o : Obj) (n : Nat), Vals xs its ∧ h.get? a = some o ∧ o.cls = .type "tuple" ∧ o.data = .seq its.toArray n := by
  rcases q with q | ⟨o, its, n, e, hc, hd, _, hv⟩
  · obtain ⟨_, its, hv, o, e, hc, n, hd⟩ := (show ObjOk P w H h a (.tup xs) from q.ok hok)
    exact ⟨its, o, n, hv, e, hc, hd⟩
  · exact ⟨its.toList, o, n, hv, KX _ _ e, hc, by simp [hd]⟩
mutual
theorem Dw.reads (hok : HOk P w H h) (KX : K.In h) : ∀ (d : WData) (v : V) (u : Value), Dw K H v d → RelV v u → ∃ as, ReadsW R cl h u d as
  | .none, _, _, x, r => by
    cases x
    cases r
    exact ⟨_, ReadsW.none⟩
  | .bool b, _, _, x, r => by
    cases x
    cases r
    exact ⟨_, ReadsW.bool b⟩
  | .int i, _, _, x, r => by
    cases x
    obtain ⟨t, rfl⟩ := r
    exact ⟨_, ReadsW.int i t⟩
  | .str s, _, _, x, r => by
    cases x
    obtain ⟨t, rfl⟩ := r
    exact ⟨_, ReadsW.str s t⟩
  | .bytes b, _, _, x, r => by
    cases x
    obtain ⟨t, rfl⟩ := r
    exact ⟨_, ReadsW.bytes _ t⟩
  | .list ds, _, _, x, r => by
    cases x with
    | lst hs ha =>
      cases r
      obtain ⟨its, o, n, rv, ho, hc, hd⟩ := sqL_at hok KX hs
      obtain ⟨as, hr⟩ := Dw.readsAll hok KX ds _ its ha rv
      exact ⟨_, ReadsW.list ho hc hd hr⟩
  | .tuple ds, _, _, x, r => by
    cases x with
    | tup hs ha =>
      cases r
      obtain ⟨its, o, n, rv, ho, hc, hd⟩ := sqT_at hok KX hs
      obtain ⟨as, hr⟩ := Dw.readsAll hok KX ds _ its ha rv
      exact ⟨_, ReadsW.tuple ho hc hd hr⟩
  | .float _, _, _, x, _ => by cases x
  | .dict _, _, _, x, _ => by cases x
  | .bytearray _, _, _, x, _ => by cases x
  | .set _, _, _, x, _ => by cases x
  | .frozenset _, _, _, x, _ => by cases x
  | .obj _ _, _, _, x, _ => by cases x
theorem Dw.readsAll (hok : HOk P w H h) (KX : K.In h) : ∀ (ds : List WData) (vs : List V) (us : List Value), DwAll K H vs ds → Vals vs us → ∃ as, ReadsAllW R cl h us ds as
  | [], _, _, x, r => by
    cases x
    cases r
    exact ⟨_, ReadsAllW.nil⟩
  | d :: ds, _, _, x, r => by
    cases x with
    | cons h1 h2 =>
      cases r with
      | cons r1 r2 =>
        obtain ⟨as, q1⟩ := Dw.reads hok KX d _ _ h1 r1
        obtain ⟨bs, q2⟩ := Dw.readsAll hok KX ds _ _ h2 r2
        exact ⟨_, ReadsAllW.cons q1 q2⟩
end
end
/-! ### the arguments -/
mutual
/-- data that a codec tells -/
def plW : WData → Bool
  | .none => true
  | .bool _ => true
  | .int _ => true
  | .str _ => true
  | .bytes _ => true
  | .list xs => plWs xs
  | .tuple xs => plWs xs
  | _ => false
def plWs : List WData → Bool
  | [] => true
  | x :: r => plW x && plWs r
end
theorem plWs_map {α : Type} {f : α → WData} (h : ∀ a, plW (f a) = true) : ∀ l : List α, plWs (l.map f) = true
  | [] => rfl
  | x :: r => by
    show (plW (f x) && plWs (r.map f)) = true
    rw [h x, plWs_map h r] <;> rfl
theorem pl_enc : ∀ (c : Codec) (a : c.denote), plW (c.enc a) = true
  | .unit, _ => rfl
  | .bool, _ => rfl
  | .int _ _, _ => rfl
  | .nat _ _, _ => rfl
  | .u8, _ => rfl
  | .bytes _ _, _ => rfl
  | .text _ _ _ _, _ => rfl
  | .list _ _ c, a => plWs_map (fun x => pl_enc c x) a
  | .pair c d, a => by
    show (plW (c.enc a.1) && (plW (d.enc a.2) && true)) = true
    rw [pl_enc c a.1, pl_enc d a.2] <;> rfl
  | .triple c d e, a => by
    show (plW (c.enc a.1) && (plW (d.enc a.2.1) && (plW (e.enc a.2.2) && true))) = true
    rw [pl_enc c a.1, pl_enc d a.2.1, pl_enc e a.2.2] <;> rfl
  | .option c, none => rfl
  | .option c, some x => pl_enc c x
theorem pl_encAll : ∀ (cs : List Codec) (a : Codec.denoteAll cs), plWs (Codec.encAll cs a) = true
  | [], _ => rfl
  | c :: cs, a => by
    show (plW (c.enc a.1) && plWs (Codec.encAll cs a.2)) = true
    rw [pl_enc c a.1, pl_encAll cs a.2] <;> rfl
theorem weight_mem : ∀ {xs : List WData} {d : WData}, d ∈ xs → d.weight ≤ WData.weightAll xs
  | [], d, h => absurd h (by simp)
  | x :: r, d, h => by
    show d.weight ≤ x.weight + 1 + WData.weightAll r
    rcases List.mem_cons.mp h with e | m
    · rw [e]
      omega
    · have z := weight_mem m
      omega
def toV : Value → V
  | .none => .non
  | .bool b => .bl b
  | .int i _ => .int i
  | .str x _ => .str x
  | .bytes b _ => .byt b
  | .ref a => .ref a
  | _ => .non
/-- a value of the arguments, its objects among A -/
def OkU (A : List Addr) : Value → Prop
  | .none => True
  | .bool _ => True
  | .int _ _ => True
  | .str _ _ => True
  | .bytes _ _ => True
  | .ref a => a ∈ A
  | _ => False
theorem OkU.mono {A B : List Addr} (h : ∀ a ∈ A, a ∈ B) : ∀ {u : Value}, OkU A u → OkU B u := fun {u} x => by
  cases u with
  | ref a => exact h a x
  | none => trivial
  | bool b => trivial
  | int i t => trivial
  | str s t => trivial
  | bytes b t => trivial
  | _ => exact False.elim x
theorem relV_toV {A : List Addr} {u : Value} (x : OkU A u) : RelV (toV u) u := by
  cases u with
  | ref a => rfl
  | none => rfl
  | bool b => rfl
  | int i t => exact ⟨t, rfl⟩
  | str s t => exact ⟨t, rfl⟩
  | bytes b t => exact ⟨t, rfl⟩
  | _ => exact False.elim x
theorem vals_toV {A : List Addr} : ∀ {vs : List Value}, (∀ u ∈ vs, OkU A u) → Vals (vs.map toV) vs
  | [], _ => .nil
  | u :: r, h => .cons (relV_toV (h u (List.mem_cons_self ..))) (vals_toV fun x hx => h x (List.mem_cons_of_mem _ hx))
/-- an object of the arguments -/
def ArgOb (h : Heap) (A : List Addr) (a : Addr) : Prop := ∃ vs : List Value, vs.length ≤ sizeLine ∧ (∀ u ∈ vs, OkU A u) ∧
  (h.get? a = some { cls := .type "list", data := .seq vs.toArray } ∨ h.get? a = some { cls := .type "tuple", data := .seq vs.toArray })
theorem ArgOb.mono {h : Heap} {A B : List Addr} {a : Addr} (k : ∀ a ∈ A, a ∈ B) (x : ArgOb h A a) : ArgOb h B a := by
  obtain ⟨vs, h1, h2, h3⟩ := x
  exact ⟨vs, h1, fun u hu => (h2 u hu).mono k, h3⟩
theorem wellAll_len {P : Params} {h : Heap} : ∀ {vs : List Value} {ds : List WData}, WellAll P h vs ds → vs.length = ds.length
  | _, _, .nil => rfl
  | _, _, .cons _ b => by
    show _ + 1 = _ + 1
    rw [wellAll_len b]
theorem well_list {P : Params} {h : Heap} {v : Value} {ds : List WData} (x : Well P h v (.list ds)) : ∃ (a : Addr) (vs : List Value), v = .ref a ∧ h.get? a = some { cls := .type "list", data := .seq vs.toArray } ∧ WellAll P h vs ds := by
  cases x with
  | list ho hall => exact ⟨_, _, rfl, ho, hall⟩
theorem well_tuple {P : Params} {h : Heap} {v : Value} {ds : List WData} (x : Well P h v (.tuple ds)) : ∃ (a : Addr) (vs : List Value), v = .ref a ∧ h.get? a = some { cls := .type "tuple", data := .seq vs.toArray } ∧ WellAll P h vs ds := by
  cases x with
  | tuple ho hall => exact ⟨_, _, rfl, ho, hall⟩
theorem well_cons {P : Params} {h : Heap} {us : List Value} {d : WData} {ds : List WData} (x : WellAll P h us (d :: ds)) : ∃ (v : Value) (vs : List Value), us = v :: vs ∧ Well P h v d ∧ WellAll P h vs ds := by
  cases x with
  | cons a b => exact ⟨_, _, rfl, a, b⟩
theorem line_of {n : Nat} (h : n ≤ 1048576) : n ≤ sizeLine := Nat.le_trans h (by decide)
section
variable {P : Params} {h : Heap}
mutual
theorem area_one : ∀ (d : WData) (v : Value), Well P h v d → plW d = true → d.weight ≤ 1048576 → ∃ A : List Addr, OkU A v ∧ ∀ a ∈ A, ArgOb h A a
  | .none, _, x, _, _ => by
    cases x
    exact ⟨[], trivial, fun a m => absurd m (by simp)⟩
  | .bool b, _, x, _, _ => by
    cases x
    exact ⟨[], trivial, fun a m => absurd m (by simp)⟩
  | .int i, _, x, _, _ => by
    cases x
    exact ⟨[], trivial, fun a m => absurd m (by simp)⟩
  | .str s, _, x, _, _ => by
    cases x
    exact ⟨[], trivial, fun a m => absurd m (by simp)⟩
  | .bytes b, _, x, _, _ => by
    cases x
    exact ⟨[], trivial, fun a m => absurd m (by simp)⟩
  | .list ds, _, x, p, z => by
    obtain ⟨a, vs, rfl, ho, hall⟩ := well_list x
    have z2 : WData.weightAll ds ≤ 1048576 := z
    obtain ⟨A, h1, h2⟩ := area_all ds _ hall p fun d hd => Nat.le_trans (weight_mem hd) z2
    have k : ∀ b ∈ A, b ∈ a :: A := fun b hb => List.mem_cons_of_mem _ hb
    refine ⟨a :: A, List.mem_cons_self .., fun b hb => ?_⟩
    rcases List.mem_cons.mp hb with e | m
    · rw [e]
      exact ⟨vs, line_of (by rw [wellAll_len hall]; exact Nat.le_trans (PySem.W.length_le_weightAllW ds) z2), fun u hu => (h1 u hu).mono k, .inl ho⟩
    · exact (h2 b m).mono k
  | .tuple ds, _, x, p, z => by
    obtain ⟨a, vs, rfl, ho, hall⟩ := well_tuple x
    have z2 : WData.weightAll ds ≤ 1048576 := z
    obtain ⟨A, h1, h2⟩ := area_all ds _ hall p fun d hd => Nat.le_trans (weight_mem hd) z2
    have k : ∀ b ∈ A, b ∈ a :: A := fun b hb => List.mem_cons_of_mem _ hb
    refine ⟨a :: A, List.mem_cons_self .., fun b hb => ?_⟩
    rcases List.mem_cons.mp hb with e | m
    · rw [e]
      exact ⟨vs, line_of (by rw [wellAll_len hall]; exact Nat.le_trans (PySem.W.length_le_weightAllW ds) z2), fun u hu => (h1 u hu).mono k, .inr ho⟩
    · exact (h2 b m).mono k
  | .float _, _, _, p, _ => Bool.noConfusion (show false = true from p)
  | .dict _, _, _, p, _ => Bool.noConfusion (show false = true from p)
  | .bytearray _, _, _, p, _ => Bool.noConfusion (show false = true from p)
  | .set _, _, _, p, _ => Bool.noConfusion (show false = true from p)
  | .frozenset _, _, _, p, _ => Bool.noConfusion (show false = true from p)
  | .obj _ _, _, _, p, _ => Bool.noConfusion (show false = true from p)
theorem area_all : ∀ (ds : List WData) (vs : List Value), WellAll P h vs ds → plWs ds = true → (∀ d ∈ ds, d.weight ≤ 1048576) → ∃ A : List Addr, (∀ u ∈ vs, OkU A u) ∧ ∀ a ∈ A, ArgOb h A a
  | [], _, x, _, _ => by
    cases x
    exact ⟨[], fun u m => absurd m (by simp), fun a m => absurd m (by simp)⟩
  | d :: ds, _, x, p, z => by
    obtain ⟨v, vs, rfl, x1, x2⟩ := well_cons x
    have q : plW d = true ∧ plWs ds = true := Bool.and_eq_true_iff.mp p
    obtain ⟨A, a1, a2⟩ := area_one d v x1 q.1 (z d (List.mem_cons_self ..))
    obtain ⟨B, b1, b2⟩ := area_all ds vs x2 q.2 fun e he => z e (List.mem_cons_of_mem _ he)
    have kA : ∀ b ∈ A, b ∈ A ++ B := fun b hb => List.mem_append.mpr (.inl hb)
    have kB : ∀ b ∈ B, b ∈ A ++ B := fun b hb => List.mem_append.mpr (.inr hb)
    refine ⟨A ++ B, fun u hu => ?_, fun b hb => ?_⟩
    · rcases List.mem_cons.mp hu with e | m
      · rw [e]
        exact a1.mono kA
      · exact (b1 u m).mono kB
    · rcases List.mem_append.mp hb with m | m
      · exact (a2 b m).mono kA
      · exact (b2 b m).mono kB
end
end
/-- what is tracked of an argument's object -/
def hoOf (o : Obj) : Option HO := match o.data with
  | .seq vs _ => if (o.cls == Value.type "list") = true then some (.frz o (.lst (vs.toList.map toV))) else some (.frz o (.tup (vs.toList.map toV)))
  | _ => none
def argH (K : PySem.W.Frag) (h : Heap) (A : List Addr) : Hp := fun b => if b ∈ A then (if (K.lookup b).isNone = true then (h.get? b).bind hoOf else none) else none
/-- nothing is tracked but what is known to the object -/
def OnlyF (H : Hp) : Prop := ∀ b, H b = none ∨ ∃ o u, H b = some (.frz o u)
theorem hoOf_lst (vs : List Value) : hoOf { cls := .type "list", data := .seq vs.toArray } = some (.frz { cls := .type "list", data := .seq vs.toArray } (.lst (vs.map toV))) := by
  show (if (Value.type "list" == Value.type "list") = true then some (HO.frz { cls := .type "list", data := .seq vs.toArray } (.lst (vs.toArray.toList.map toV))) else some (HO.frz { cls := .type "list", data := .seq vs.toArray } (.tup (vs.toArray.toList.map toV)))) = _
  rw [if_pos (beq_self_eq_true _)]
theorem hoOf_tup (vs : List Value) : hoOf { cls := .type "tuple", data := .seq vs.toArray } = some (.frz { cls := .type "tuple", data := .seq vs.toArray } (.tup (vs.map toV))) := by
  show (if (Value.type "tuple" == Value.type "list") = true then some (HO.frz { cls := .type "tuple", data := .seq vs.toArray } (.lst (vs.toArray.toList.map toV))) else some (HO.frz { cls := .type "tuple", data := .seq vs.toArray } (.tup (vs.toArray.toList.map toV)))) = _
  rw [if_neg (by decide)]
section
variable {P : Program} {w : World} {K : PySem.W.Frag} {h : Heap} {A : List Addr}
theorem argH_at {b : Addr} {o : Obj} (hb : b ∈ A) (hk : K.lookup b = none) (e : h.get? b = some o) : argH K h A b = hoOf o := by
  unfold argH
  rw [if_pos hb, hk, if_pos (show (none : Option Obj).isNone = true from rfl), e] <;> rfl
theorem of_argH {b : Addr} {u : HO} (q : argH K h A b = some u) : b ∈ A ∧ K.lookup b = none := by
  unfold argH at q
  by_cases hb : b ∈ A
  · rw [if_pos hb] at q
    cases hk : K.lookup b with
    | none => exact ⟨hb, rfl⟩
    | some o =>
      rw [hk, if_neg (by simp)] at q
      cases q
  · rw [if_neg hb] at q
    cases q
/-- what stands tracked -/
theorem argH_is (ar : ∀ a ∈ A, ArgOb h A a) {b : Addr} {u : HO} (q : argH K h A b = some u) : K.lookup b = none ∧ ∃ vs : List Value, vs.length ≤ sizeLine ∧ (∀ u ∈ vs, OkU A u) ∧
    ((h.get? b = some { cls := .type "list", data := .seq vs.toArray } ∧ u = .frz { cls := .type "list", data := .seq vs.toArray } (.lst (vs.map toV))) ∨
     (h.get? b = some { cls := .type "tuple", data := .seq vs.toArray } ∧ u = .frz { cls := .type "tuple", data := .seq vs.toArray } (.tup (vs.map toV)))) := by
  obtain ⟨hb, hk⟩ := of_argH q
  obtain ⟨vs, h1, h2, h3⟩ := ar b hb
  refine ⟨hk, vs, h1, h2, ?_⟩
  rcases h3 with e | e
  · rw [argH_at hb hk e, hoOf_lst] at q
    exact .inl ⟨e, (Option.some.inj q).symm⟩
  · rw [argH_at hb hk e, hoOf_tup] at q
    exact .inr ⟨e, (Option.some.inj q).symm⟩
theorem argH_only (ar : ∀ a ∈ A, ArgOb h A a) : OnlyF (argH K h A) := fun b => by
  cases q : argH K h A b with
  | none => exact .inl rfl
  | some u =>
    obtain ⟨_, vs, _, _, ⟨_, e⟩ | ⟨_, e⟩⟩ := argH_is ar q
    · exact .inr ⟨_, _, by rw [e]⟩
    · exact .inr ⟨_, _, by rw [e]⟩
theorem argH_ok (ar : ∀ a ∈ A, ArgOb h A a) : HOk P w (argH K h A) h := fun b u q => by
  obtain ⟨_, vs, h1, h2, ⟨e, rfl⟩ | ⟨e, rfl⟩⟩ := argH_is ar q
  · exact ⟨e, by rw [List.length_map]; exact h1, vs, _, vals_toV h2, e⟩
  · exact ⟨e, by rw [List.length_map]; exact h1, vs, vals_toV h2, _, e, rfl, _, rfl⟩
theorem seq_inj {c c' : Value} {vs us : List Value} (e : (some { cls := c, data := .seq vs.toArray } : Option Obj) = some { cls := c', data := .seq us.toArray }) : c = c' ∧ vs = us := by
  have e1 := Option.some.inj e
  have e2 : c = c' := congrArg Obj.cls e1
  have e3 : Data.seq vs.toArray = Data.seq us.toArray := congrArg Obj.data e1
  injection e3 with e4
  refine ⟨e2, ?_⟩
  have e5 := congrArg Array.toList e4
  simpa using e5
/-- a list argument -/
theorem argL (KX : K.In h) (ar : ∀ a ∈ A, ArgOb h A a) {a : Addr} {vs : List Value} (ha : a ∈ A) (e : h.get? a = some { cls := .type "list", data := .seq vs.toArray }) : (∀ u ∈ vs, OkU A u) ∧ SqL K (argH K h A) a (vs.map toV) := by
  obtain ⟨us, h1, h2, h3⟩ := ar a ha
  have hu : us = vs := by
    rcases h3 with q | q
    · rw [e] at q
      exact (seq_inj q).2.symm
    · rw [e] at q
      exact absurd (Value.type.inj (seq_inj q).1) (by decide)
  subst hu
  refine ⟨h2, ?_⟩
  cases hk : K.lookup a with
  | none => exact .inl (.inr ⟨_, by rw [argH_at ha hk e, hoOf_lst]⟩)
  | some o =>
    have e2 := KX a o hk
    rw [e] at e2
    obtain rfl := Option.some.inj e2
    exact .inr ⟨_, us.toArray, _, hk, rfl, rfl, rfl, by rw [List.size_toArray]; exact h1, by simpa using vals_toV h2⟩
theorem argT (KX : K.In h) (ar : ∀ a ∈ A, ArgOb h A a) {a : Addr} {vs : List Value} (ha : a ∈ A) (e : h.get? a = some { cls := .type "tuple", data := .seq vs.toArray }) : (∀ u ∈ vs, OkU A u) ∧ SqT K (argH K h A) a (vs.map toV) := by
  obtain ⟨us, h1, h2, h3⟩ := ar a ha
  have hu : us = vs := by
    rcases h3 with q | q
    · rw [e] at q
      exact absurd (Value.type.inj (seq_inj q).1) (by decide)
    · rw [e] at q
      exact (seq_inj q).2.symm
  subst hu
  refine ⟨h2, ?_⟩
  cases hk : K.lookup a with
  | none => exact .inl (.inr ⟨_, by rw [argH_at ha hk e, hoOf_tup]⟩)
  | some o =>
    have e2 := KX a o hk
    rw [e] at e2
    obtain rfl := Option.some.inj e2
    exact .inr ⟨_, us.toArray, _, hk, rfl, rfl, by rw [List.size_toArray]; exact h1, by simpa using vals_toV h2⟩
mutual
theorem dw_one {Pm : Params} (KX : K.In h) (ar : ∀ a ∈ A, ArgOb h A a) : ∀ (d : WData) (v : Value), Well Pm h v d → plW d = true → OkU A v → Dw K (argH K h A) (toV v) d
  | .none, _, x, _, _ => by
    cases x
    exact .non
  | .bool b, _, x, _, _ => by
    cases x
    exact .bl b
  | .int i, _, x, _, _ => by
    cases x
    exact .int i
  | .str s, _, x, _, _ => by
    cases x
    exact .str s
  | .bytes b, _, x, _, _ => by
    cases x
    have z := Dw.byt (K := K) (H := argH K h A) b.toArray
    exact z
  | .list ds, _, x, p, hu => by
    obtain ⟨a, vs, rfl, ho, hall⟩ := well_list x
    obtain ⟨h2, hs⟩ := argL KX ar hu ho
    exact .lst hs (dw_all KX ar ds _ hall p h2)
  | .tuple ds, _, x, p, hu => by
    obtain ⟨a, vs, rfl, ho, hall⟩ := well_tuple x
    obtain ⟨h2, hs⟩ := argT KX ar hu ho
    exact .tup hs (dw_all KX ar ds _ hall p h2)
  | .float _, _, _, p, _ => Bool.noConfusion (show false = true from p)
  | .dict _, _, _, p, _ => Bool.noConfusion (show false = true from p)
  | .bytearray _, _, _, p, _ => Bool.noConfusion (show false = true from p)
  | .set _, _, _, p, _ => Bool.noConfusion (show false = true from p)
  | .frozenset _, _, _, p, _ => Bool.noConfusion (show false = true from p)
  | .obj _ _, _, _, p, _ => Bool.noConfusion (show false = true from p)
theorem dw_all {Pm : Params} (KX : K.In h) (ar : ∀ a ∈ A, ArgOb h A a) : ∀ (ds : List WData) (vs : List Value), WellAll Pm h vs ds → plWs ds = true → (∀ u ∈ vs, OkU A u) → DwAll K (argH K h A) (vs.map toV) ds
  | [], _, x, _, _ => by
    cases x
    exact .nil
  | d :: ds, _, x, p, hu => by
    obtain ⟨v, vs, rfl, x1, x2⟩ := well_cons x
    have q : plW d = true ∧ plWs ds = true := Bool.and_eq_true_iff.mp p
    exact .cons (dw_one KX ar d v x1 q.1 (hu _ (List.mem_cons_self ..))) (dw_all KX ar ds vs x2 q.2 fun u m => hu u (List.mem_cons_of_mem _ m))
end
end
/-! ### the call -/
theorem spec_call {P : Program} {w : World} {K : PySem.W.Frag} {mg mb : Str → Option Value} {CX : CXT} {k : Nat} {fa : Addr} {fd : FuncData} {ps : List Str} {sp : Sp} {s₁ : Shared} {vals : List Value} {ds : List WData} {R : PySem.W.WRecords} {cl : Str → Option Addr} {d0 : WData}
    (KX : K.In s₁.heap) (hns : s₁.heap.Ns mainGlobals mg) (hb : s₁.heap.Ns builtinsNs mb) (hbb : ∀ x : Str, x ≠ "__name__" → mb x = bootBuiltins x) (hlim : s₁.heap.NoLimit) (hg : s₁.gens = #[])
    (hwl : WellAll w.params s₁.heap vals ds) (hpl : plWs ds = true) (hwt : ∀ d ∈ ds, d.weight ≤ 1048576) (hr : Room k callerA)
    (F : ∀ base : Heap, K.In base → base.Ns mainGlobals mg → FnOk P w K mg base CX k fa fd ps sp) (hbind : ∀ (s : Shared) (us : List Value), us.length = ps.length → BindsTo s fd ⟨us, []⟩ (ps.zip us)) (hlen : ds.length = ps.length)
    (hsp : ∀ (H : Hp) (xs : List V), OnlyF H → DwAll K H xs ds → sp xs H (fun v H' => Dw K H' v d0) fun _ _ _ => False)
    (hCX : ∀ H e s', CX [] H s₁ (fun _ _ _ => False) e s' → False) :
    codeAny (model P w) callerA (.call (.ref fa) ⟨vals, []⟩) (fun r s' => ∃ u as, r = .ok (.ret u) ∧ ReadsW R cl s'.heap u d0 as ∧ OldK s₁.heap s'.heap ∧ s'.os = s₁.os ∧ AllBare s'.gens) s₁ := by
  obtain ⟨A, ho, ar⟩ := area_all ds vals hwl hpl hwt
  have hO : OnlyF (argH K s₁.heap A) := argH_only ar
  have hok : HOk P w (argH K s₁.heap A) s₁.heap := argH_ok ar
  have hS := dw_all KX ar ds vals hwl hpl ho
  have hV := vals_toV ho
  have hK : ∀ b u, argH K s₁.heap A b = some u → K.lookup b = none := fun b u q => (argH_is ar q).1
  have noA : ∀ {b : Addr} {o : Obj} {es : Array DictEntry} {ep : Nat}, s₁.heap.get? b = some o → o.data = .dict es ep → argH K s₁.heap A b = none := fun {b o es ep} e d => by
    cases q : argH K s₁.heap A b with
    | none => rfl
    | some u =>
      obtain ⟨_, vs, _, _, ⟨e2, _⟩ | ⟨e2, _⟩⟩ := argH_is ar q
      · rw [e2] at e
        cases e
        have d' : Data.seq vs.toArray _ = Data.dict es ep := d
        cases d'
      · rw [e2] at e
        cases e
        have d' : Data.seq vs.toArray _ = Data.dict es ep := d
        cases d'
  generalize argH K s₁.heap A = H at hO hok hS hK noA
  have base_of : ∀ {b : Addr} {o : Obj}, s₁.heap.get? b = some o → H b = none → (hidT s₁.heap H).get? b = some o := fun e n => hidT_get e n
  have nsK : ∀ {b : Addr} {m : Str → Option Value}, s₁.heap.Ns b m → (hidT s₁.heap H).Ns b m := fun {b m} ⟨o, es, ep, e, d, r⟩ => ⟨o, es, ep, base_of e (noA e d), d, r⟩
  have nK : ∀ b o, K.lookup b = some o → H b = none := fun b o e => by
    cases q : H b with
    | none => rfl
    | some u =>
      rw [hK b u q] at e
      cases e
  have hKb : K.In (hidT s₁.heap H) := fun b o e => base_of (KX b o e) (nK b o e)
  have hM : Mod K mg (hidT s₁.heap H) := ⟨hKb, nsK hns, ⟨mb, nsK hb, hbb⟩, let ⟨mc, h1, h2⟩ := hlim; ⟨mc, nsK h1, h2⟩⟩
  have e0 : Env0 P w K mg (hidT s₁.heap H) callerA [] s₁ H := ⟨rfl, hM, fun b o e => of_hidT e, Nat.le_of_eq (hidT_size _ _), trivial, fun b hb => absurd (show b ∈ ([] : List Addr) from hb) (by simp), hok, .of_eq hg⟩
  have hl : vals.length = ps.length := by rw [wellAll_len hwl]; exact hlen
  refine codeAny_mono ((F _ hKb (nsK hns)).run callerA [] s₁ H ⟨vals, []⟩ vals (vals.map toV) _ _ hr e0 (hbind s₁ vals hl) hV (hsp H _ hO hS)) fun r s' x => ?_
  cases r with
  | error e => exact (hCX H e s' x).elim
  | ok fl =>
    cases fl with
    | next => exact False.elim x
    | brk => exact False.elim x
    | cont => exact False.elim x
    | ret u =>
      obtain ⟨v, H', os, bare, un, hok', r', q⟩ := x
      have kept : ∀ b o, s₁.heap.get? b = some o → s'.heap.get? b = some o := fun b o e => by
        cases q2 : H b with
        | none => exact un.keep b o e q2 (by intro z; exact absurd (show b ∈ ([] : List Addr) from z) (by simp)) (by simp)
        | some u2 =>
          rcases hO b with z | ⟨ob, u3, z⟩
          · rw [q2] at z
            cases z
          · have z2 := un.frzs b ob _ z
            obtain ⟨e1, _⟩ := hok b _ z
            obtain ⟨e2, _⟩ := hok' b _ z2
            rw [e] at e1
            cases e1
            exact e2
      have KX' : K.In s'.heap := fun b o e => kept b o (KX b o e)
      obtain ⟨as, hrd⟩ := Dw.reads (R := R) (cl := cl) hok' KX' d0 v u q r'
      exact ⟨u, as, rfl, hrd, OldK.of_keep kept, os, bare⟩
/-! ### the row -/
theorem layable_weight {ds : List WData} (h : WData.layableAll ds = true) : ∀ d ∈ ds, d.weight ≤ 1048576 := fun d hd =>
  (PySem.W.layableW_iff.mp (List.all_eq_true.mp h d hd)).2.2
theorem encAll_len : ∀ (cs : List Codec) (a : Codec.denoteAll cs), (Codec.encAll cs a).length = cs.length
  | [], _ => rfl
  | c :: cs, a => by
    show (Codec.encAll cs a.2).length + 1 = cs.length + 1
    rw [encAll_len cs a.2]
/-- the goal that k_headS leaves (case hc), from the promise of the row's def: whatever the arguments that the codecs let and the row asks for, the def gives what stands for enc (f ..) -/
theorem walk_spec {r : OpenSpec} {k : Nat} {q : Program} {loose : List Str} {XP : (Str → Option Value) → Heap → Prop} {YP : World → Heap → Prop} {d : DefRec} {K : Params → PySem.W.Frag} {CX : World → CXT} {ps : List Str} {sp : World → Sp}
    (hwell : r.wellSaid = true) (hdf : d.params.defaults = []) (hlen : r.args.length = ps.length) (hr : Room k callerA)
    (hY : ∀ (w : World) (h : Heap), YP w h → (K w.params).In h)
    (F : ∀ (w : World) (mg : Str → Option Value) (fa : Addr) (h : Heap), YP w h → (K w.params).In h → h.Ns mainGlobals mg → mg d.name = some (.ref fa) →
      ∃ fd : FuncData, (∀ (s : Shared) (us : List Value), us.length = ps.length → BindsTo s fd ⟨us, []⟩ (ps.zip us)) ∧
        ∀ base : Heap, (K w.params).In base → base.Ns mainGlobals mg → FnOk r.prog w (K w.params) mg base (CX w) k fa fd ps (sp w))
    (hsp : ∀ (w : World) (H : Hp) (xs : List V) (a : Codec.denoteAll r.args), OnlyF H → Codec.withinAll r.args a = true → Codec.app r.args r.asked a = true → DwAll (K w.params) H xs (Codec.encAll r.args a) →
      sp w xs H (fun v H' => Dw (K w.params) H' v (r.ret.enc (Codec.app r.args r.f a))) fun _ _ _ => False)
    (hCX : ∀ (w : World) (H : Hp) (s : Shared) (e : Value) (s' : Shared), CX w [] H s (fun _ _ _ => False) e s' → False) :
    PySem.W.WalkOS q loose XP YP r d [] (fun f vs => PySem.call f vs) := by
  intro w s_0 s₁ mg mb G Y fa o pm cd doc dV kV ho hd hcd hD hmg hg args vals as hpre hlay hrd hwl hlo
  obtain ⟨a, e1, e2⟩ := PySem.W.os_pre_some hpre
  obtain ⟨e3, hwi⟩ := Codec.encAll_of_decAll r.args args a e1
  subst e3
  have KX := hY w _ Y
  obtain ⟨fd, hb, hF⟩ := F w mg fa _ Y KX G.T.g hmg
  refine PySem.W.enter_call (codeAny_mono (spec_call (R := []) (cl := classAt s_0.heap) (d0 := r.ret.enc (Codec.app r.args r.f a)) KX G.T.g G.T.b G.T.builtins G.T.nolimit hg hwl (pl_encAll _ _) (layable_weight hlay) hr hF hb (by rw [encAll_len]; exact hlen)
    (fun H xs hO hS => hsp w H xs a hO hwi e2 hS) fun H e s' => hCX w H s₁ e s') fun r' s' hq => ?_)
  obtain ⟨u, as', rfl, h1, h2, h3, h4⟩ := hq
  exact ⟨.inl ⟨u, _, as', rfl, fun _ => rfl, h1, (OpenSpec.post_iff hwell hwi _ _).mpr rfl, fun z => Bool.noConfusion (show false = true from z)⟩, h2, h3, h4⟩
/-- the same where the promise hangs on the written part alone -/
theorem walk_specK {r : OpenSpec} {k : Nat} {q : Program} {loose : List Str} {XP : (Str → Option Value) → Heap → Prop} {YP : World → Heap → Prop} {d : DefRec} {K : Params → PySem.W.Frag} {CX : CXT} {ps : List Str} {sp : PySem.W.Frag → Sp}
    (hwell : r.wellSaid = true) (hdf : d.params.defaults = []) (hlen : r.args.length = ps.length) (hr : Room k callerA)
    (hY : ∀ (w : World) (h : Heap), YP w h → (K w.params).In h)
    (F : ∀ (w : World) (mg : Str → Option Value) (fa : Addr) (h : Heap), YP w h → (K w.params).In h → h.Ns mainGlobals mg → mg d.name = some (.ref fa) →
      ∃ fd : FuncData, (∀ (s : Shared) (us : List Value), us.length = ps.length → BindsTo s fd ⟨us, []⟩ (ps.zip us)) ∧
        ∀ base : Heap, (K w.params).In base → base.Ns mainGlobals mg → FnOk r.prog w (K w.params) mg base CX k fa fd ps (sp (K w.params)))
    (hsp : ∀ (K : PySem.W.Frag) (H : Hp) (xs : List V) (a : Codec.denoteAll r.args), OnlyF H → Codec.withinAll r.args a = true → Codec.app r.args r.asked a = true → DwAll K H xs (Codec.encAll r.args a) →
      sp K xs H (fun v H' => Dw K H' v (r.ret.enc (Codec.app r.args r.f a))) fun _ _ _ => False)
    (hCX : ∀ (H : Hp) (s : Shared) (e : Value) (s' : Shared), CX [] H s (fun _ _ _ => False) e s' → False) :
    PySem.W.WalkOS q loose XP YP r d [] (fun f vs => PySem.call f vs) :=
  walk_spec (K := K) (CX := fun _ => CX) (sp := fun w => sp (K w.params)) hwell hdf hlen hr hY F (fun w H xs a h1 h2 h3 h4 => hsp (K w.params) H xs a h1 h2 h3 h4) fun _ H s e s' => hCX H s e s'
end L2
end

set_option Elab.async false
namespace Tw
open Kp189

/-! ### one request's pieces -/
structure WF (t : Nat) (L : List Piece) (r : Nat → Nat) : Prop where
  req : ∀ p ∈ L, p.request = t
  ids : ∀ p ∈ L, ∀ q ∈ L, p.id = q.id → p = q
  pos : ∀ p ∈ L, p.id ≠ 0
  one : ∀ p ∈ L, ∀ q ∈ L, p.within = 0 → q.within = 0 → p = q
  len : L.length ≤ 64
  ord : ∀ p ∈ L, p.from_ ≤ p.to
  rk : ∀ p ∈ L, r p.id = r p.within + 1
  r0 : ∀ i, (∀ p ∈ L, p.id ≠ i) → r i = 0

theorem WF.nil (t : Nat) : WF t [] (fun _ => 0) :=
  ⟨fun _ h => (nomatch h), fun _ h => (nomatch h), fun _ h => (nomatch h), fun _ h => (nomatch h), Nat.zero_le _, fun _ h => (nomatch h), fun _ h => (nomatch h), fun _ _ => rfl⟩

section
variable {t : Nat} {L : List Piece} {r : Nat → Nat}

theorem find_some_mem {i : Nat} {p : Piece} (h : find L t i = some p) : p ∈ L ∧ p.request = t ∧ p.id = i := by
  unfold find at h
  have h1 := List.mem_of_find?_eq_some h
  have h2 := List.find?_some h
  simp only [Bool.and_eq_true, beq_iff_eq] at h2
  exact ⟨h1, h2.1, h2.2⟩
theorem find_none (W : WF t L r) {i : Nat} (h : find L t i = none) : ∀ p ∈ L, p.id ≠ i := by
  intro p hp e
  unfold find at h
  have := List.find?_eq_none.mp h p hp
  simp only [Bool.and_eq_true, beq_iff_eq, not_and] at this
  exact this (W.req p hp) e
theorem find_mem (W : WF t L r) {p : Piece} (hp : p ∈ L) : find L t p.id = some p := by
  cases e : find L t p.id with
  | none => exact absurd rfl (find_none W e p hp)
  | some q =>
    obtain ⟨hq, _, e2⟩ := find_some_mem e
    rw [W.ids q hq p hp e2]

theorem countP_lt {α : Type} {f g : α → Bool} : ∀ {l : List α} {a : α}, a ∈ l → (∀ x ∈ l, f x = true → g x = true) → f a = false → g a = true → l.countP f + 1 ≤ l.countP g
  | [], _, h, _, _, _ => nomatch h
  | x :: l, a, h, m, h1, h2 => by
    have mono : l.countP f ≤ l.countP g := List.countP_mono_left fun y hy => m y (List.mem_cons_of_mem _ hy)
    rcases List.mem_cons.mp h with e | h'
    · subst e
      rw [List.countP_cons, List.countP_cons, h1, h2]
      simp
      omega
    · have ih := countP_lt h' (fun y hy => m y (List.mem_cons_of_mem _ hy)) h1 h2
      rw [List.countP_cons, List.countP_cons]
      have := m x List.mem_cons_self
      cases e1 : f x with
      | true => rw [this e1]; simp; omega
      | false => cases g x <;> simp <;> omega

/-- pieces that lie no further inwards than i -/
def cnt (L : List Piece) (r : Nat → Nat) (i : Nat) : Nat := L.countP fun q => decide (r q.id ≤ r i)
theorem cnt_le (W : WF t L r) (i : Nat) : cnt L r i ≤ 64 := Nat.le_trans List.countP_le_length W.len
theorem cnt_step (W : WF t L r) {p : Piece} (hp : p ∈ L) : cnt L r p.within + 1 ≤ cnt L r p.id := by
  unfold cnt
  have e := W.rk p hp
  refine countP_lt hp (fun x _ h => ?_) ?_ ?_
  · simp only [decide_eq_true_eq] at h ⊢; omega
  · simp only [decide_eq_false_iff_not]; omega
  · simp
theorem leads_succ (L : List Piece) (t j n i : Nat) : leads L t j (n + 1) i = if i = 0 then false else if i = j then true else match find L t i with
    | some p => leads L t j n p.within
    | none => false := rfl
theorem leads_more (W : WF t L r) (j : Nat) : ∀ (n i : Nat), cnt L r i < n → leads L t j n i = leads L t j (n + 1) i
  | 0, _, h => by omega
  | n + 1, i, h => by
    rw [leads_succ L t j n i, leads_succ L t j (n + 1) i]
    split
    · rfl
    · split
      · rfl
      · cases e : find L t i with
        | none => rfl
        | some p =>
          obtain ⟨hp, _, e2⟩ := find_some_mem e
          have := cnt_step W hp
          rw [e2] at this
          exact leads_more W j n p.within (by omega)
/-- from i outwards one comes to j -/
def comes (L : List Piece) (t j i : Nat) : Bool := leads L t j (PIECES + 1) i
theorem comes_eq (W : WF t L r) (j i : Nat) : comes L t j i = if i = 0 then false else if i = j then true else match find L t i with
    | some p => comes L t j p.within
    | none => false := by
  unfold comes
  rw [leads_more W j (PIECES + 1) i (by have := cnt_le W i; show _ < 65; omega)]
  rw [leads_succ L t j (PIECES + 1) i]
theorem comes_self (W : WF t L r) {j : Nat} (h : j ≠ 0) : comes L t j j = true := by
  rw [comes_eq W, if_neg h, if_pos rfl]
theorem comes_up (W : WF t L r) {j : Nat} {p : Piece} (hp : p ∈ L) (h : p.id ≠ j) : comes L t j p.id = comes L t j p.within := by
  rw [comes_eq W, if_neg (W.pos p hp), if_neg h, find_mem W hp]
theorem comes_out (W : WF t L r) {j i : Nat} (h : i ≠ j) (h2 : find L t i = none) : comes L t j i = false := by
  rw [comes_eq W, if_neg h, h2]
  split <;> rfl
theorem comes_zero (W : WF t L r) {j : Nat} : comes L t j 0 = false := by
  rw [comes_eq W, if_pos rfl]
/-- an induction outwards -/
theorem outward (W : WF t L r) {P : Nat → Prop} (h0 : ∀ i, (find L t i = none) → P i) (h1 : ∀ p ∈ L, P p.within → P p.id) : ∀ i, P i := by
  have all : ∀ n i, r i ≤ n → P i := by
    intro n
    induction n with
    | zero =>
      intro i hi
      refine h0 i ?_
      cases e : find L t i with
      | none => rfl
      | some p =>
        obtain ⟨hp, _, e2⟩ := find_some_mem e
        have := W.rk p hp
        rw [e2] at this
        omega
    | succ n ih =>
      intro i hi
      cases e : find L t i with
      | none => exact h0 i e
      | some p =>
        obtain ⟨hp, _, e2⟩ := find_some_mem e
        have := W.rk p hp
        rw [e2] at this
        have := h1 p hp (ih _ (by omega))
        rw [e2] at this
        exact this
  exact fun i => all (r i) i (Nat.le_refl _)
theorem comes_pos (W : WF t L r) {j i : Nat} (h : comes L t j i = true) : j ≠ 0 := by
  revert h
  refine outward W (P := fun i => comes L t j i = true → j ≠ 0) (fun i e h => ?_) (fun p hp ih h => ?_) i
  · by_cases hij : i = j
    · intro z
      rw [hij, z, comes_zero W] at h
      cases h
    · rw [comes_out W hij e] at h
      cases h
  · by_cases hij : p.id = j
    · rw [← hij]; exact W.pos p hp
    · rw [comes_up W hp hij] at h
      exact ih h
theorem comes_rank (W : WF t L r) {j i : Nat} (h : comes L t j i = true) : i = j ∨ r j < r i := by
  revert h
  refine outward W (P := fun i => comes L t j i = true → i = j ∨ r j < r i) (fun i e h => ?_) (fun p hp ih h => ?_) i
  · by_cases hij : i = j
    · exact .inl hij
    · rw [comes_out W hij e] at h
      cases h
  · by_cases hij : p.id = j
    · exact .inl hij
    · rw [comes_up W hp hij] at h
      have := W.rk p hp
      rcases ih h with e | e
      · exact .inr (by rw [← e]; omega)
      · exact .inr (by omega)
theorem comes_trans (W : WF t L r) {a b i : Nat} (h1 : comes L t a b = true) (h2 : comes L t b i = true) : comes L t a i = true := by
  revert h2
  refine outward W (P := fun i => comes L t b i = true → comes L t a i = true) (fun i e h => ?_) (fun p hp ih h => ?_) i
  · by_cases hij : i = b
    · rw [hij]; exact h1
    · rw [comes_out W hij e] at h
      cases h
  · by_cases hij : p.id = b
    · rw [hij]; exact h1
    · rw [comes_up W hp hij] at h
      by_cases ha : p.id = a
      · rw [ha]; exact comes_self W (comes_pos W h1)
      · rw [comes_up W hp ha]; exact ih h
theorem comes_line (W : WF t L r) {a b i : Nat} (h1 : comes L t a i = true) (h2 : comes L t b i = true) : comes L t a b = true ∨ comes L t b a = true := by
  revert h1 h2
  refine outward W (P := fun i => comes L t a i = true → comes L t b i = true → comes L t a b = true ∨ comes L t b a = true) (fun i e h1 h2 => ?_) (fun p hp ih h1 h2 => ?_) i
  · by_cases ha : i = a
    · rw [← ha]; exact .inr h2
    · rw [comes_out W ha e] at h1
      cases h1
  · by_cases ha : p.id = a
    · rw [← ha]; exact .inr h2
    · by_cases hb : p.id = b
      · rw [← hb]; exact .inl h1
      · rw [comes_up W hp ha] at h1
        rw [comes_up W hp hb] at h2
        exact ih h1 h2
theorem comes_same (W : WF t L r) {a b i : Nat} (h1 : comes L t a i = true) (h2 : comes L t b i = true) (e : r a = r b) : a = b := by
  rcases comes_line W h1 h2 with h | h
  · rcases comes_rank W h with z | z
    · exact z.symm
    · omega
  · rcases comes_rank W h with z | z
    · exact z
    · omega

/-! ### a piece is added -/
theorem WF.snoc (W : WF t L r) {p : Piece} (hr : p.request = t) (h0 : p.id ≠ 0) (ho : p.from_ ≤ p.to) (hn : find L t p.id = none) (h1 : p.within = 0 → root L t = none)
    (hc : comes L t p.id p.within = false) (hl : L.length < 64) : ∃ r', WF t (L ++ [p]) r' := by
  have hfree := find_none W hn
  have rp : r p.id = 0 := W.r0 _ hfree
  refine ⟨fun i => if comes L t p.id i = true then r i + (r p.within + 1) else r i, ?_⟩
  have mem : ∀ q, q ∈ L ++ [p] → q ∈ L ∨ q = p := fun q hq => by
    rcases List.mem_append.mp hq with h | h
    · exact .inl h
    · exact .inr (by simpa using h)
  have noroot : p.within = 0 → ∀ q ∈ L, q.within ≠ 0 := fun e q hq z => by
    have := h1 e
    unfold root at this
    have := List.find?_eq_none.mp this q hq
    simp only [Bool.and_eq_true, beq_iff_eq, not_and] at this
    exact this (W.req q hq) z
  refine ⟨fun q hq => ?_, fun a ha b hb e => ?_, fun q hq => ?_, fun a ha b hb ea eb => ?_, ?_, fun q hq => ?_, fun q hq => ?_, fun i hi => ?_⟩
  · rcases mem q hq with h | rfl
    · exact W.req q h
    · exact hr
  · rcases mem a ha with h | rfl
    · rcases mem b hb with h' | rfl
      · exact W.ids a h b h' e
      · exact absurd e (hfree a h)
    · rcases mem b hb with h' | rfl
      · exact absurd e.symm (hfree b h')
      · rfl
  · rcases mem q hq with h | rfl
    · exact W.pos q h
    · exact h0
  · rcases mem a ha with h | rfl
    · rcases mem b hb with h' | rfl
      · exact W.one a h b h' ea eb
      · exact absurd ea (noroot eb a h)
    · rcases mem b hb with h' | rfl
      · exact absurd eb (noroot ea b h')
      · rfl
  · rw [List.length_append]
    show L.length + 1 ≤ 64
    omega
  · rcases mem q hq with h | rfl
    · exact W.ord q h
    · exact ho
  · rcases mem q hq with h | rfl
    · have e := comes_up W (j := p.id) h (hfree q h)
      have k := W.rk q h
      show (if comes L t p.id q.id = true then r q.id + (r p.within + 1) else r q.id) = (if comes L t p.id q.within = true then r q.within + (r p.within + 1) else r q.within) + 1
      rw [e]
      split <;> omega
    · show (if comes L t q.id q.id = true then r q.id + (r q.within + 1) else r q.id) = (if comes L t q.id q.within = true then r q.within + (r q.within + 1) else r q.within) + 1
      rw [comes_self W h0, hc, rp]
      simp
  · have hi1 : ∀ q ∈ L, q.id ≠ i := fun q hq => hi q (List.mem_append_left _ hq)
    have hi2 : p.id ≠ i := hi p (List.mem_append_right _ (by simp))
    have e : comes L t p.id i = false := by
      refine comes_out W (fun z => hi2 z.symm) ?_
      cases e : find L t i with
      | none => rfl
      | some q =>
        obtain ⟨hq, _, e2⟩ := find_some_mem e
        exact absurd e2 (hi1 q hq)
    show (if comes L t p.id i = true then r i + (r p.within + 1) else r i) = 0
    rw [e]
    exact W.r0 i hi1

/-! ### to whom a stretch falls: how many steps, how many parts -/
/-- the pieces within p, by one right within it that has some time there -/
def under (L : List Piece) (t : Nat) (p : Piece) (lo hi : Nat) (q : Piece) : Bool := (inner L t p.id).any fun c => meets lo hi c && comes L t c.id q.id
def wt (L : List Piece) (t : Nat) (p : Piece) (lo hi : Nat) : Nat := L.countP (under L t p lo hi)
theorem wt_le (W : WF t L r) (p : Piece) (lo hi : Nat) : wt L t p lo hi ≤ 64 := Nat.le_trans List.countP_le_length W.len
theorem mem_inner {i : Nat} {c : Piece} : c ∈ inner L t i ↔ c ∈ L ∧ c.request = t ∧ c.within = i := by
  unfold inner
  rw [List.mem_filter]
  simp [Bool.and_eq_true, beq_iff_eq]
theorem under_iff {p q : Piece} {lo hi : Nat} : under L t p lo hi q = true ↔ ∃ c, c ∈ inner L t p.id ∧ meets lo hi c = true ∧ comes L t c.id q.id = true := by
  unfold under
  rw [List.any_eq_true]
  simp [Bool.and_eq_true]
theorem meets_iff {lo hi : Nat} {c : Piece} : meets lo hi c = true ↔ max c.from_ lo < min c.to hi := by
  unfold meets
  rw [decide_eq_true_eq]
theorem countP3 {α : Type} {f g h k : α → Bool} : ∀ {l : List α}, (∀ x ∈ l, f x = true → k x = true ∧ g x = false ∧ h x = false) → (∀ x ∈ l, g x = true → k x = true ∧ h x = false) → (∀ x ∈ l, h x = true → k x = true) → l.countP f + l.countP g + l.countP h ≤ l.countP k
  | [], _, _, _ => by simp
  | x :: l, a, b, c => by
    have ih := countP3 (l := l) (fun y hy => a y (List.mem_cons_of_mem _ hy)) (fun y hy => b y (List.mem_cons_of_mem _ hy)) (fun y hy => c y (List.mem_cons_of_mem _ hy))
    have a' := a x List.mem_cons_self
    have b' := b x List.mem_cons_self
    have c' := c x List.mem_cons_self
    simp only [List.countP_cons]
    cases ef : f x with
    | true =>
      obtain ⟨k1, k2, k3⟩ := a' ef
      rw [k1, k2, k3]
      simp
      omega
    | false =>
      cases eg : g x with
      | true =>
        obtain ⟨k1, k2⟩ := b' eg
        rw [k1, k2]
        simp
        omega
      | false =>
        cases eh : h x with
        | true =>
          rw [c' eh]
          simp
          omega
        | false =>
          cases k x <;> simp <;> omega
theorem meets_less {lo hi : Nat} {c c' : Piece} (hc : meets lo hi c = true) (h : meets lo (max c.from_ lo) c' = true) : meets lo hi c' = true := by
  rw [meets_iff] at hc h ⊢
  omega
theorem meets_not {lo : Nat} {c : Piece} : meets lo (max c.from_ lo) c = false := by
  cases e : meets lo (max c.from_ lo) c with
  | false => rfl
  | true =>
    rw [meets_iff] at e
    omega
theorem wt_split (W : WF t L r) {p c : Piece} {lo hi : Nat} (hc : c ∈ inner L t p.id) (hm : meets lo hi c = true) (b e : Nat) :
    wt L t c b e + 1 + wt L t p lo (max c.from_ lo) ≤ wt L t p lo hi := by
  obtain ⟨hcL, hcr, hcw⟩ := mem_inner.mp hc
  have rc : r c.id = r p.id + 1 := by rw [W.rk c hcL, hcw]
  have one : 1 ≤ L.countP (fun q => q.id == c.id) := by
    refine List.one_le_countP_iff.mpr ⟨c, hcL, ?_⟩
    simp
  have main : L.countP (under L t c b e) + L.countP (fun q => q.id == c.id) + L.countP (under L t p lo (max c.from_ lo)) ≤ L.countP (under L t p lo hi) := by
    -- q comes to something right within c
    have up : ∀ q, under L t c b e q = true → comes L t c.id q.id = true ∧ q.id ≠ c.id := by
      intro q h
      obtain ⟨d, hd, _, hq⟩ := under_iff.mp h
      obtain ⟨hdL, _, hdw⟩ := mem_inner.mp hd
      have rd : r d.id = r c.id + 1 := by rw [W.rk d hdL, hdw]
      have dc : comes L t c.id d.id = true := by
        rw [comes_up W hdL (by intro z; rw [z] at rd; omega), hdw]
        exact comes_self W (W.pos c hcL)
      refine ⟨comes_trans W dc hq, fun z => ?_⟩
      rw [z] at hq
      rcases comes_rank W hq with y | y
      · rw [← y] at rd; omega
      · omega
    have low : ∀ q, comes L t c.id q.id = true → under L t p lo (max c.from_ lo) q = false := by
      intro q h
      cases ee : under L t p lo (max c.from_ lo) q with
      | false => rfl
      | true =>
        obtain ⟨d, hd, hdm, hq⟩ := under_iff.mp ee
        obtain ⟨hdL, _, hdw⟩ := mem_inner.mp hd
        have rd : r d.id = r p.id + 1 := by rw [W.rk d hdL, hdw]
        have := comes_same W h hq (by omega)
        have := W.ids c hcL d hdL this
        subst this
        rw [meets_not] at hdm
        cases hdm
    refine countP3 (fun q hq h => ⟨?_, ?_, ?_⟩) (fun q hq h => ⟨?_, ?_⟩) (fun q hq h => ?_)
    · exact under_iff.mpr ⟨c, hc, hm, (up q h).1⟩
    · exact beq_eq_false_iff_ne.mpr (up q h).2
    · exact low q (up q h).1
    · have z : q.id = c.id := eq_of_beq h
      exact under_iff.mpr ⟨c, hc, hm, by rw [z]; exact comes_self W (W.pos c hcL)⟩
    · have z : q.id = c.id := eq_of_beq h
      exact low q (by rw [z]; exact comes_self W (W.pos c hcL))
    · obtain ⟨d, hd, hdm, hq'⟩ := under_iff.mp h
      exact under_iff.mpr ⟨d, hd, meets_less hm hdm, hq'⟩
  unfold wt
  omega
theorem lastOf_mem {hi : Nat} : ∀ {l : List Piece} {c : Piece}, lastOf hi l = some c → c ∈ l
  | [], c, h => nomatch h
  | p :: l, c, h => by
    unfold lastOf at h
    cases e : lastOf hi l with
    | none =>
      rw [e] at h
      have := Option.some.inj h
      rw [this]
      exact List.mem_cons_self
    | some q =>
      rw [e] at h
      dsimp only at h
      split at h
      · have := Option.some.inj h
        rw [this]
        exact List.mem_cons_self
      · have := Option.some.inj h
        rw [← this]
        exact List.mem_cons_of_mem _ (lastOf_mem e)
theorem back_succ (L : List Piece) (f : Nat) (p : Piece) (lo hi : Nat) : back L (f + 1) p lo hi = if hi ≤ lo then [] else match lastOf hi ((inner L p.request p.id).filter (meets lo hi)) with
    | none => [⟨p.id, lo, hi⟩]
    | some c => (if min c.to hi < hi then [⟨p.id, min c.to hi, hi⟩] else []) ++ back L f c (max c.from_ lo) (min c.to hi) ++ back L f p lo (max c.from_ lo) := rfl
theorem last_in {p c : Piece} {lo hi : Nat} (h : lastOf hi ((inner L t p.id).filter (meets lo hi)) = some c) : c ∈ inner L t p.id ∧ meets lo hi c = true := List.mem_filter.mp (lastOf_mem h)
theorem back_more (W : WF t L r) : ∀ (f : Nat) (p : Piece) (lo hi : Nat), p.request = t → wt L t p lo hi < f → back L f p lo hi = back L (f + 1) p lo hi
  | 0, _, _, _, _, h => by omega
  | f + 1, p, lo, hi, hp, h => by
    rw [back_succ L f p lo hi, back_succ L (f + 1) p lo hi, hp]
    split
    · rfl
    · cases e : lastOf hi ((inner L t p.id).filter (meets lo hi)) with
      | none => rfl
      | some c =>
        obtain ⟨hc, hm⟩ := last_in e
        have := wt_split W hc hm (max c.from_ lo) (min c.to hi)
        dsimp only
        rw [back_more W f c _ _ (mem_inner.mp hc).2.1 (by omega), back_more W f p _ _ hp (by omega)]
theorem back_len (W : WF t L r) : ∀ (f : Nat) (p : Piece) (lo hi : Nat), p.request = t → (back L f p lo hi).length ≤ 2 * wt L t p lo hi + 1
  | 0, _, _, _, _ => Nat.zero_le _
  | f + 1, p, lo, hi, hp => by
    rw [back_succ L f p lo hi, hp]
    split
    · exact Nat.zero_le _
    · cases e : lastOf hi ((inner L t p.id).filter (meets lo hi)) with
      | none => show 1 ≤ _; omega
      | some c =>
        obtain ⟨hc, hm⟩ := last_in e
        have := wt_split W hc hm (max c.from_ lo) (min c.to hi)
        have h1 := back_len W f c (max c.from_ lo) (min c.to hi) (mem_inner.mp hc).2.1
        have h2 := back_len W f p lo (max c.from_ lo) hp
        have e2 : (if min c.to hi < hi then [⟨p.id, min c.to hi, hi⟩] else [] : List Part).length ≤ 1 := by split <;> simp
        dsimp only
        rw [List.length_append, List.length_append]
        omega
/-- the stretches, the last one first -/
def Back (L : List Piece) (p : Piece) (lo hi : Nat) : List Part := back L 256 p lo hi
theorem Back_eq (W : WF t L r) {p : Piece} (hp : p.request = t) (lo hi : Nat) : Back L p lo hi = if hi ≤ lo then [] else match lastOf hi ((inner L t p.id).filter (meets lo hi)) with
    | none => [⟨p.id, lo, hi⟩]
    | some c => (if min c.to hi < hi then [⟨p.id, min c.to hi, hi⟩] else []) ++ Back L c (max c.from_ lo) (min c.to hi) ++ Back L p lo (max c.from_ lo) := by
  unfold Back
  rw [back_more W 256 p lo hi hp (by have := wt_le W p lo hi; omega), back_succ, hp]
theorem Back_len (W : WF t L r) {p : Piece} (hp : p.request = t) (lo hi : Nat) : (Back L p lo hi).length ≤ 129 := by
  have h1 := back_len W 256 p lo hi hp
  have h2 := wt_le W p lo hi
  unfold Back
  omega

theorem wt_last (W : WF t L r) {p c : Piece} {lo hi : Nat} (h : lastOf hi ((inner L t p.id).filter (meets lo hi)) = some c) (b e : Nat) :
    wt L t c b e + 1 + wt L t p lo (max c.from_ lo) ≤ wt L t p lo hi := wt_split W (last_in h).1 (last_in h).2 b e
end

/-! ### which one is the last -/
theorem later_iff {hi : Nat} {p q : Piece} : later hi p q = true ↔ min q.to hi < min p.to hi ∨ (min q.to hi = min p.to hi ∧ (p.from_ < q.from_ ∨ (p.from_ = q.from_ ∧ p.id < q.id))) := by
  unfold later
  simp only [Bool.or_eq_true, Bool.and_eq_true, decide_eq_true_eq, beq_iff_eq]
theorem later_irr {hi : Nat} {p : Piece} : later hi p p = false := by
  cases e : later hi p p with
  | false => rfl
  | true => rw [later_iff] at e; omega
theorem later_trans {hi : Nat} {p q s : Piece} (h1 : later hi p q = true) (h2 : later hi q s = true) : later hi p s = true := by
  rw [later_iff] at h1 h2 ⊢
  omega
theorem later_asym {hi : Nat} {p q : Piece} (h1 : later hi p q = true) (h2 : later hi q p = true) : False := by
  rw [later_iff] at h1 h2
  omega
theorem later_total {hi : Nat} {p q : Piece} (h : p.id ≠ q.id) : later hi p q = true ∨ later hi q p = true := by
  rw [later_iff, later_iff]
  omega
theorem lastOf_none {hi : Nat} : ∀ {l : List Piece}, lastOf hi l = none → l = []
  | [], _ => rfl
  | p :: l, h => by
    unfold lastOf at h
    cases e : lastOf hi l with
    | none => rw [e] at h; cases h
    | some q =>
      rw [e] at h
      dsimp only at h
      split at h <;> cases h
/-- none of the others is later -/
theorem lastOf_best {hi : Nat} : ∀ {l : List Piece} {c : Piece}, lastOf hi l = some c → ∀ x ∈ l, later hi x c = false
  | [], c, h => nomatch h
  | p :: l, c, h => by
    unfold lastOf at h
    intro x hx
    cases e : lastOf hi l with
    | none =>
      rw [e] at h
      have e1 := Option.some.inj h
      have e2 := lastOf_none e
      subst e1 e2
      have : x = p := by simpa using hx
      subst this
      exact later_irr
    | some q =>
      rw [e] at h
      dsimp only at h
      have ih := lastOf_best e
      cases hpq : later hi p q with
      | true =>
        rw [hpq] at h
        have e1 := Option.some.inj h
        subst e1
        rcases List.mem_cons.mp hx with z | z
        · rw [z]; exact later_irr
        · cases ee : later hi x p with
          | false => rfl
          | true =>
            have := ih x z
            rw [later_trans ee hpq] at this
            cases this
      | false =>
        rw [hpq] at h
        have e1 := Option.some.inj h
        subst e1
        rcases List.mem_cons.mp hx with z | z
        · rw [z]; exact hpq
        · exact ih x z
/-- told by what holds of it -/
theorem lastOf_is {hi : Nat} {l : List Piece} {c : Piece} (ids : ∀ p ∈ l, ∀ q ∈ l, p.id = q.id → p = q) (hc : c ∈ l) (hb : ∀ x ∈ l, later hi x c = false) : lastOf hi l = some c := by
  cases e : lastOf hi l with
  | none =>
    rw [lastOf_none e] at hc
    cases hc
  | some d =>
    have hd := lastOf_mem e
    by_cases z : d.id = c.id
    · rw [ids d hd c hc z]
    · exfalso
      rcases later_total (hi := hi) z with y | y
      · rw [hb d hd] at y; cases y
      · rw [lastOf_best e c hc] at y; cases y

/-! ### one request's pieces out of all -/
section
variable (l : List Piece) (t : Nat)
theorem mem_of {p : Piece} : p ∈ ofRequest l t ↔ p ∈ l ∧ p.request = t := by
  unfold ofRequest
  rw [List.mem_filter]
  simp
theorem find_filter {α : Type} (f g : α → Bool) : ∀ l : List α, (∀ x, g x = true → f x = true) → (l.filter f).find? g = l.find? g
  | [], _ => rfl
  | x :: l, h => by
    rw [List.filter_cons, List.find?_cons]
    cases e : g x with
    | true =>
      rw [if_pos (h x e), List.find?_cons, e]
    | false =>
      split
      · rw [List.find?_cons, e]
        exact find_filter f g l h
      · exact find_filter f g l h
theorem find_of (i : Nat) : find (ofRequest l t) t i = find l t i := find_filter _ _ l fun x h => by
  simp only [Bool.and_eq_true] at h
  exact h.1
theorem root_of : root (ofRequest l t) t = root l t := find_filter _ _ l fun x h => by
  simp only [Bool.and_eq_true] at h
  exact h.1
theorem inner_of (i : Nat) : inner (ofRequest l t) t i = inner l t i := by
  unfold inner ofRequest
  rw [List.filter_filter]
  congr 1
  funext x
  cases x.request == t <;> simp
theorem ofRequest_of : ofRequest (ofRequest l t) t = ofRequest l t := by
  unfold ofRequest
  rw [List.filter_filter]
  congr 1
  funext x
  cases x.request == t <;> rfl
theorem leads_of (j : Nat) : ∀ n i, leads (ofRequest l t) t j n i = leads l t j n i
  | 0, _ => rfl
  | n + 1, i => by
    rw [leads_succ, leads_succ, find_of]
    split
    · rfl
    · split
      · rfl
      · cases find l t i with
        | none => rfl
        | some p => exact leads_of j n p.within
theorem back_of : ∀ (f : Nat) (p : Piece) (lo hi : Nat), p.request = t → back (ofRequest l t) f p lo hi = back l f p lo hi
  | 0, _, _, _, _ => rfl
  | f + 1, p, lo, hi, hp => by
    rw [back_succ, back_succ, hp, inner_of]
    split
    · rfl
    · cases e : lastOf hi ((inner l t p.id).filter (meets lo hi)) with
      | none => rfl
      | some c =>
        have hc : c.request = t := by
          have := (List.mem_filter.mp (lastOf_mem e)).1
          exact (mem_inner.mp this).2.1
        dsimp only
        rw [back_of f c _ _ hc, back_of f p _ _ hp]
theorem root_some {L : List Piece} {t : Nat} {p : Piece} (h : root L t = some p) : p ∈ L ∧ p.request = t ∧ p.within = 0 := by
  unfold root at h
  have h1 := List.mem_of_find?_eq_some h
  have h2 := List.find?_some h
  simp only [Bool.and_eq_true, beq_iff_eq] at h2
  exact ⟨h1, h2.1, h2.2⟩
theorem path_of : path (ofRequest l t) t = path l t := by
  unfold path
  rw [root_of]
  cases e : root l t with
  | none => rfl
  | some p => dsimp only; rw [back_of l t _ _ _ _ (root_some e).2.1]
theorem timeOf_of (i : Nat) : timeOf (ofRequest l t) t i = timeOf l t i := by
  unfold timeOf
  rw [path_of]
theorem apart_of : apart (ofRequest l t) t = apart l t := by
  unfold apart
  rw [root_of, ofRequest_of]
  simp only [leads_of]
theorem of_snoc (p : Piece) : ofRequest (l ++ [p]) t = if p.request = t then ofRequest l t ++ [p] else ofRequest l t := by
  unfold ofRequest
  rw [List.filter_append, List.filter_cons, List.filter_nil]
  by_cases e : p.request = t
  · rw [if_pos (beq_iff_eq.mpr e), if_pos e]
  · rw [if_neg (fun h => e (beq_iff_eq.mp h)), if_neg e, List.append_nil]
/-- of a kind, in one request -/
def kindIn (L : List Piece) (t k : Nat) : Nat := Kp189.sum (((path L t).filter fun x => match find L t x.id with
  | some p => p.kind == k
  | none => false).map length)
theorem kindIn_of (k : Nat) : kindIn (ofRequest l t) t k = kindIn l t k := by
  unfold kindIn
  rw [path_of]
  simp only [find_of]
theorem timeOfKind_eq (k : Nat) : timeOfKind l k = Kp189.sum ((List.range REQUESTS).map fun t => kindIn (ofRequest l t) t k) := by
  unfold timeOfKind
  simp only [kindIn_of]
  rfl
end
end Tw

set_option Elab.async false
namespace Tw
open Kp189
/-! ### the calls in one list -/
/-- how many numbers a call has -/
def width (p : Int) : Nat := if p = 0 then 0 else if p = 1 then 6 else if p = 2 then 1 else if p = 3 then 1 else if p = 4 then 2 else 1
theorem whole_id (c : List (List Int)) : PyKp189.whole c = c := by
  unfold PyKp189.whole
  split <;> rfl
theorem map_whole (cs : List (List (List Int))) : cs.map PyKp189.whole = cs := by
  rw [List.map_congr_left (g := id) fun c _ => whole_id c, List.map_id]
theorem shape_some {p : Int} {n k : Nat} (h : PyKp189.shape p = some (n, k)) : 0 ≤ p ∧ p ≤ 5 ∧ n = width p ∧ k = 0 := by
  unfold PyKp189.shape at h
  unfold width
  by_cases h0 : p = 0
  · rw [if_pos h0] at h; cases h; exact ⟨by omega, by omega, by rw [if_pos h0], rfl⟩
  rw [if_neg h0] at h ⊢
  by_cases h1 : p = 1
  · rw [if_pos h1] at h; cases h; exact ⟨by omega, by omega, by rw [if_pos h1], rfl⟩
  rw [if_neg h1] at h ⊢
  by_cases h2 : p = 2
  · rw [if_pos h2] at h; cases h; exact ⟨by omega, by omega, by rw [if_pos h2], rfl⟩
  rw [if_neg h2] at h ⊢
  by_cases h3 : p = 3
  · rw [if_pos h3] at h; cases h; exact ⟨by omega, by omega, by rw [if_pos h3], rfl⟩
  rw [if_neg h3] at h ⊢
  by_cases h4 : p = 4
  · rw [if_pos h4] at h; cases h; exact ⟨by omega, by omega, by rw [if_pos h4], rfl⟩
  rw [if_neg h4] at h ⊢
  by_cases h5 : p = 5
  · rw [if_pos h5] at h; cases h; exact ⟨by omega, by omega, rfl, rfl⟩
  rw [if_neg h5] at h
  cases h
/-- one call more: its number, its numbers, the rest -/
theorem calls_cons {f : Nat} {p : Int} {q : List Int} {cs : List (List (List Int))} (h : PyFlat.calls PyKp189.shape f (p :: q) = some cs) :
    ∃ f' cs', f = f' + 1 ∧ cs = [p :: q.take (width p)] :: cs' ∧ 0 ≤ p ∧ p ≤ 5 ∧ width p ≤ q.length ∧ PyFlat.calls PyKp189.shape f' (q.drop (width p)) = some cs' := by
  cases f with
  | zero => unfold PyFlat.calls at h; cases h
  | succ f =>
    have e : PyFlat.calls PyKp189.shape (f + 1) (p :: q) = match PyFlat.call PyKp189.shape (p :: q) with
      | none => none
      | some (c, t) => match PyFlat.calls PyKp189.shape f t with
        | none => none
        | some cs => some (c :: cs) := rfl
    rw [e] at h
    have e2 : PyFlat.call PyKp189.shape (p :: q) = match PyKp189.shape p with
      | none => none
      | some (n, k) => if q.length < n then none else match PyFlat.rows k (q.drop n) with
        | none => none
        | some (xs, t) => some ((p :: q.take n) :: xs, t) := rfl
    rw [e2] at h
    cases es : PyKp189.shape p with
    | none => rw [es] at h; cases h
    | some nk =>
      obtain ⟨n, k⟩ := nk
      obtain ⟨a1, a2, rfl, rfl⟩ := shape_some es
      rw [es] at h
      dsimp only at h
      by_cases hl : q.length < width p
      · rw [if_pos hl] at h; cases h
      · rw [if_neg hl] at h
        have e3 : PyFlat.rows 0 (q.drop (width p)) = some ([], q.drop (width p)) := rfl
        rw [e3] at h
        dsimp only at h
        cases ec : PyFlat.calls PyKp189.shape f (q.drop (width p)) with
        | none => rw [ec] at h; cases h
        | some cs' =>
          rw [ec] at h
          exact ⟨f, cs', rfl, (Option.some.inj h).symm, a1, a2, by omega, ec⟩
theorem calls_nil {f : Nat} {cs : List (List (List Int))} (h : PyFlat.calls PyKp189.shape f [] = some cs) : cs = [] := by
  cases f <;> (unfold PyFlat.calls at h; exact (Option.some.inj h).symm)
/-- what is still to be asked: the rest of the list, read as calls -/
structure Rest (l : List Int) (at_ k : Nat) (s : Option (List Piece)) (given : List Int) (cs : List (List (List Int))) : Prop where
  read : ∃ f, PyFlat.calls PyKp189.shape f (l.drop at_) = some cs
  ok : cs.all Kp189Neutral.asked1 = true
  few : k + cs.length ≤ 400
  ans : PyKp189.answers l = given ++ PyFlat.told (PyFlat.played Kp189Neutral.step s cs)
  first : s = none → ∃ cs', cs = [[0]] :: cs'
theorem Rest.start {l : List Int} (h : PyKp189.answers_asked l = true) : ∃ cs, Rest l 0 0 none [] cs := by
  unfold PyKp189.answers_asked at h
  cases e : PyKp189.calls l with
  | none => rw [e] at h; cases h
  | some cs =>
    rw [e] at h
    dsimp only at h
    simp only [Bool.and_eq_true, PyFlat.atMost, Kp189Neutral.asked, decide_eq_true_eq] at h
    obtain ⟨h1, h2, h3, h4⟩ := h
    have e' := e
    unfold PyKp189.calls at e'
    cases e2 : PyFlat.calls PyKp189.shape l.length l with
    | none => rw [e2] at e'; cases e'
    | some cs0 =>
      rw [e2] at e'
      dsimp only at e'
      rw [map_whole] at e'
      have := Option.some.inj e'
      subst this
      refine ⟨cs0, ⟨l.length, e2⟩, h4, by omega, ?_, fun _ => ?_⟩
      · unfold PyKp189.answers
        rw [e]
        rfl
      · unfold Kp189Neutral.begins at h2
        split at h2
        · exact ⟨_, rfl⟩
        · cases h2
theorem Rest.done {l : List Int} {at_ k : Nat} {s : Option (List Piece)} {given : List Int} {cs : List (List (List Int))} (R : Rest l at_ k s given cs) (h : l.length ≤ at_) : PyKp189.answers l = given := by
  obtain ⟨f, e⟩ := R.read
  rw [List.drop_eq_nil_of_le h] at e
  have := calls_nil e
  rw [R.ans, this]
  show given ++ [] = given
  rw [List.append_nil]
theorem Rest.step {l : List Int} {at_ k : Nat} {s : Option (List Piece)} {given : List Int} {cs : List (List (List Int))} (R : Rest l at_ k s given cs) {p : Int} (h : l[at_]? = some p) :
    ∃ ns cs', ns = (l.drop (at_ + 1)).take (width p) ∧ ns.length = width p ∧ 0 ≤ p ∧ p ≤ 5 ∧ at_ + 1 + width p ≤ l.length ∧ Kp189Neutral.asked1 [p :: ns] = true ∧ k < 400 ∧ (s = none → p = 0) ∧
      ∀ s' a, Kp189Neutral.step s [p :: ns] = (s', a) → s' ≠ none → Rest l (at_ + 1 + width p) (k + 1) s' (given ++ (a.length : Int) :: a) cs' := by
  obtain ⟨f, e⟩ := R.read
  obtain ⟨hlt, hp⟩ := List.getElem?_eq_some_iff.mp h
  have ed : l.drop at_ = p :: l.drop (at_ + 1) := by rw [List.drop_eq_getElem_cons hlt, hp]
  rw [ed] at e
  obtain ⟨f', cs', _, ec, p0, p5, hw, er⟩ := calls_cons e
  rw [List.length_drop] at hw
  have hok := R.ok
  rw [ec, List.all_cons, Bool.and_eq_true] at hok
  have hfew := R.few
  rw [ec, List.length_cons] at hfew
  refine ⟨_, cs', rfl, ?_, p0, p5, by omega, hok.1, by omega, fun z => ?_, fun s' a hs hn => ⟨⟨f', ?_⟩, hok.2, by omega, ?_, fun z => absurd z hn⟩⟩
  · rw [List.length_take, List.length_drop]
    omega
  · obtain ⟨cs2, e2⟩ := R.first z
    rw [ec] at e2
    have := (List.cons.inj e2).1
    have := (List.cons.inj this).1
    exact (List.cons.inj this).1
  · rw [List.drop_drop] at er
    exact er
  · rw [R.ans, ec]
    show given ++ (PyFlat.told ((Kp189Neutral.step s [p :: (l.drop (at_ + 1)).take (width p)]).2 :: PyFlat.played Kp189Neutral.step (Kp189Neutral.step s [p :: (l.drop (at_ + 1)).take (width p)]).1 cs')) = _
    rw [hs, List.append_assoc]
    rfl
end Tw

set_option Elab.async false
namespace Tw
open Kp189
/-! ### sums, and the parts' number -/
theorem foldl_add : ∀ (l : List Nat) (a : Nat), l.foldl (fun (x y : Nat) => x + y) a = a + l.foldl (fun (x y : Nat) => x + y) 0
  | [], a => rfl
  | x :: l, a => by
    rw [List.foldl_cons, List.foldl_cons, foldl_add l (a + x), foldl_add l (0 + x)]
    omega
theorem sum_nil : Kp189.sum [] = 0 := rfl
theorem sum_cons (x : Nat) (l : List Nat) : Kp189.sum (x :: l) = x + Kp189.sum l := by
  unfold Kp189.sum
  rw [List.foldl_cons, foldl_add]
  omega
theorem sum_append : ∀ (l m : List Nat), Kp189.sum (l ++ m) = Kp189.sum l + Kp189.sum m
  | [], m => by rw [List.nil_append, sum_nil]; omega
  | x :: l, m => by rw [List.cons_append, sum_cons, sum_cons, sum_append l m]; omega
theorem sum_reverse : ∀ (l : List Nat), Kp189.sum l.reverse = Kp189.sum l
  | [] => rfl
  | x :: l => by rw [List.reverse_cons, sum_append, sum_reverse l, sum_cons, sum_cons, sum_nil]; omega
/-- what of some parts falls where f says, together -/
def sumIf (f : Part → Bool) (l : List Part) : Nat := Kp189.sum ((l.filter f).map length)
theorem sumIf_nil (f : Part → Bool) : sumIf f [] = 0 := rfl
theorem sumIf_cons (f : Part → Bool) (x : Part) (l : List Part) : sumIf f (x :: l) = (if f x = true then length x else 0) + sumIf f l := by
  unfold sumIf
  rw [List.filter_cons]
  split
  · rw [List.map_cons, sum_cons]
  · omega
theorem sumIf_append (f : Part → Bool) (l m : List Part) : sumIf f (l ++ m) = sumIf f l + sumIf f m := by
  unfold sumIf
  rw [List.filter_append, List.map_append, sum_append]
theorem sumIf_reverse (f : Part → Bool) (l : List Part) : sumIf f l.reverse = sumIf f l := by
  unfold sumIf
  rw [List.filter_reverse, List.map_reverse, sum_reverse]
theorem timeOf_sumIf (L : List Piece) (t i : Nat) : timeOf L t i = sumIf (fun x => x.id == i) (path L t) := rfl
theorem path_Back {L : List Piece} {t : Nat} {p : Piece} (h : root L t = some p) : path L t = (Back L p p.from_ p.to).reverse := by
  unfold path
  rw [h]
  rfl
theorem path_len {L : List Piece} {t : Nat} {r : Nat → Nat} (W : WF t L r) : (path L t).length ≤ 129 := by
  cases h : root L t with
  | none =>
    unfold path
    rw [h]
    exact Nat.zero_le _
  | some p =>
    rw [path_Back h, List.length_reverse]
    exact Back_len W (root_some h).2.1 _ _
theorem path_none {L : List Piece} {t : Nat} (h : root L t = none) : path L t = [] := by
  unfold path
  rw [h]
/-- the pieces of a request's parts were told -/
theorem back_told {t : Nat} {L : List Piece} {r : Nat → Nat} (W : WF t L r) : ∀ (f : Nat) (p : Piece) (lo hi : Nat), p ∈ L → ∀ x ∈ back L f p lo hi, ∃ q ∈ L, q.id = x.id
  | 0, _, _, _, _, x, h => by
    have h : x ∈ ([] : List Part) := h
    cases h
  | f + 1, p, lo, hi, hp, x, h => by
    rw [back_succ L f p lo hi, W.req p hp] at h
    split at h
    · cases h
    · cases e : lastOf hi ((inner L t p.id).filter (meets lo hi)) with
      | none =>
        rw [e] at h
        have : x = ⟨p.id, lo, hi⟩ := by simpa using h
        exact ⟨p, hp, by rw [this]⟩
      | some c =>
        rw [e] at h
        dsimp only at h
        have hc := mem_inner.mp (last_in e).1
        rcases List.mem_append.mp h with h | h
        · rcases List.mem_append.mp h with h | h
          · split at h
            · have : x = ⟨p.id, min c.to hi, hi⟩ := by simpa using h
              exact ⟨p, hp, by rw [this]⟩
            · cases h
          · exact back_told W f c _ _ hc.1 x h
        · exact back_told W f p _ _ hp x h
theorem path_told {t : Nat} {L : List Piece} {r : Nat → Nat} (W : WF t L r) {x : Part} (h : x ∈ path L t) : ∃ q ∈ L, q.id = x.id := by
  cases e : root L t with
  | none => rw [path_none e] at h; cases h
  | some p =>
    rw [path_Back e, List.mem_reverse] at h
    exact back_told W _ p _ _ (root_some e).1 x h
/-- parts aren't empty -/
theorem back_fwd {L : List Piece} {t : Nat} {r : Nat → Nat} (W : WF t L r) : ∀ (f : Nat) (p : Piece) (lo hi : Nat), p.request = t → ∀ x ∈ back L f p lo hi, x.from_ < x.to ∧ lo ≤ x.from_ ∧ x.to ≤ hi
  | 0, _, _, _, _, x, h => by
    have h : x ∈ ([] : List Part) := h
    cases h
  | f + 1, p, lo, hi, hp, x, h => by
    rw [back_succ L f p lo hi, hp] at h
    split at h
    · cases h
    · cases e : lastOf hi ((inner L t p.id).filter (meets lo hi)) with
      | none =>
        rw [e] at h
        have : x = ⟨p.id, lo, hi⟩ := by simpa using h
        subst this
        dsimp only
        omega
      | some c =>
        rw [e] at h
        dsimp only at h
        have hm := meets_iff.mp (last_in e).2
        have hc := mem_inner.mp (last_in e).1
        rcases List.mem_append.mp h with h | h
        · rcases List.mem_append.mp h with h | h
          · split at h
            · have : x = ⟨p.id, min c.to hi, hi⟩ := by simpa using h
              subst this
              dsimp only
              omega
            · cases h
          · have := back_fwd W f c _ _ hc.2.1 x h
            omega
        · have := back_fwd W f p _ _ hp x h
          omega
end Tw

set_option Elab.async false
set_option linter.all false
set_option maxRecDepth 100000
set_option maxHeartbeats 2000000
/-! Small words over the layer that don't hang on the program. -/
namespace Tp
open PySem PySem.Spec PyProof.Rows L2
theorem putF_nil {f : Str} {v : V} : putF f v [] = [(f, v)] := rfl
theorem putF_hit {f : Str} {v x : V} {r : List (Str × V)} : putF f v ((f, x) :: r) = (f, v) :: r := by
  show (if f = f then (f, v) :: r else (f, x) :: putF f v r) = _
  rw [if_pos rfl]
theorem putF_miss {f g : Str} {v x : V} {r : List (Str × V)} (h : ¬ g = f) : putF f v ((g, x) :: r) = (g, x) :: putF f v r := by
  show (if g = f then (g, v) :: r else (g, x) :: putF f v r) = _
  rw [if_neg h]
theorem pl0 : ([] : List (Str × V)).length ≤ 0 := Nat.le_refl _
theorem pl {f : Str} {v : V} {fs : List (Str × V)} {n : Nat} (h : fs.length ≤ n) : (putF f v fs).length ≤ n + 1 := Nat.le_trans (length_putF f v fs) (Nat.succ_le_succ h)
theorem few {fs : List (Str × V)} {n : Nat} (h : fs.length ≤ n) (hn : n < 1000 := by decide) : fs.length < 1000 := Nat.lt_of_le_of_lt h hn
theorem pe_globE {X : Cx} {x : Str} {v : V} {pos : Pos} (hg : Gl X x) (h : ∃ u, X.mg x = some u ∧ RelV v u) (hd : (x == ("__debug__" : Str)) = false := by decide) : PE X (.Name x pos) (tC v) :=
  let ⟨_, a, b⟩ := h
  pe_glob hg a b hd
theorem upd_self {H : Hp} {d : Addr} {u : HO} (h : H d = some u) : upd H d u = H := by
  funext b
  unfold upd
  split
  · rename_i e
    rw [e, h]
  · rfl
/-- a new thing laid leaves the rest -/
theorem Same.new {H : Hp} {p : Addr} {o : HO} (h : H p = none) : Same H (upd H p o) := fun b u e => by
  rw [upd_ne (ne_of_none e h)]
  exact e
theorem Rd.upd_ne {H : Hp} {a d : Addr} {o u : HO} (h : a ≠ d) (r : Rd H a u) : Rd (upd H d o) a u := by
  rcases r with r | ⟨q, r⟩
  · exact .inl (by rw [L2.upd_ne h]; exact r)
  · exact .inr ⟨q, by rw [L2.upd_ne h]; exact r⟩
theorem DGet.r {H : Hp} {a : Addr} {kvs : List (Key × V)} {i : Int} {o : Option V} (e : Rd H a (.dK kvs)) (h : valV kvs (Sum.inl i : Key) = o) : DGet H a (.int i) o := .inl ⟨kvs, Sum.inl i, e, rfl, h.symm⟩
theorem map_at {α β : Type} {f : α → β} {l : List α} {i : Nat} {y : β} (h : (l.map f)[i]? = some y) : ∃ x, l[i]? = some x ∧ y = f x := by
  rw [List.getElem?_map] at h
  cases e : l[i]? with
  | none => rw [e] at h; cases h
  | some x => rw [e] at h; exact ⟨x, rfl, (Option.some.inj h).symm⟩
theorem take_snoc {α : Type} : ∀ {l : List α} {i : Nat} {x : α}, l[i]? = some x → l.take (i + 1) = l.take i ++ [x]
  | [], i, x, h => by simp at h
  | a :: l, 0, x, h => by
    have e : a = x := Option.some.inj h
    subst e
    rfl
  | a :: l, i + 1, x, h => by
    have ih := take_snoc (l := l) (i := i) (x := x) h
    show a :: l.take (i + 1) = a :: l.take i ++ [x]
    rw [ih]
    rfl
theorem paired_at {α β : Type} {F : α → β → Prop} : ∀ {l : List α} {m : List β}, Paired F l m → ∀ {i : Nat} {y : β}, m[i]? = some y → ∃ x, l[i]? = some x ∧ F x y
  | _, _, .nil, i, y, h => by simp at h
  | _, _, .cons r t, 0, y, h => by
    have e := Option.some.inj h
    subst e
    exact ⟨_, rfl, r⟩
  | _, _, .cons r t, i + 1, y, h => paired_at t (i := i) h
theorem paired_snoc {α β : Type} {F : α → β → Prop} : ∀ {l : List α} {m : List β} {x : α} {y : β}, Paired F l m → F x y → Paired F (l ++ [x]) (m ++ [y])
  | _, _, _, _, .nil, h => .cons h .nil
  | _, _, _, _, .cons r t, h => .cons r (paired_snoc t h)
theorem paired_len {α β : Type} {F : α → β → Prop} : ∀ {l : List α} {m : List β}, Paired F l m → l.length = m.length
  | _, _, .nil => rfl
  | _, _, .cons r t => congrArg (· + 1) (paired_len t)
theorem yes_of {σ : L2.St} {H : Hp} {R R' : Hp → Prop} (h : if true = true then R H else R' H) : tYes σ H (fun b H1 => if b = true then R H1 else R' H1) := h
theorem blk_of {X : Cx} {N : List Str} {sc scope : Scope} {own : List (Str × Nat)} (h : BlkOk N sc scope own) (hN : X.N = N) (hs : X.env.scope = sc) : BlkOk X.N X.env.scope scope own := by
  rw [hN, hs]
  exact h
/-- over the keys of a dict that is locked -/
theorem lc_keys {d : Addr} {o : Obj} {kvs : List (Key × V)} {g : TG} {tt : TT} {te : TE} {vs : List Nat} {σ : L2.St} {H1 : Hp} {D : Addr} {Qd : Hp → Prop} (Pv : Nat → Hp → Prop) (h0 : Pv 0 (upd H1 D (.lst [])))
    (hl : ∀ i H, i ≤ kvs.length → Pv i H → H d = some (.frz o (.dK kvs)))
    (hs : ∀ i k v H, kvs[i]? = some (k, v) → Pv i H → g (kV k) (wipe σ vs) H fun σ2 H2 => wipe σ2 vs = wipe σ vs ∧ tt σ2 H2 fun b H3 =>
      if b = true then te σ2 H3 fun y H4 => ∃ acc, H4 D = some (.lst acc) ∧ acc.length < sizeLine ∧ Pv (i + 1) (upd H4 D (.lst (acc ++ [y]))) else Pv (i + 1) H3) (hd : ∀ H, Pv kvs.length H → Qd H) :
    ∃ W : Nat → Nat → Hp → Prop, (∃ m, W 0 m (upd H1 D (.lst []))) ∧ ∀ i m H, W i m H →
      ((Itk d o kvs).stop i H ∧ Qd H) ∨ ((Itk d o kvs).go i H ∧ ∃ Nx : Hp → Prop, (∀ H', Nx H' → ∃ m', m' < m ∧ W (i + 1) m' H') ∧ ∀ x H', (Itk d o kvs).yld i H x H' → g x (wipe σ vs) H' fun σ2 H2 => wipe σ2 vs = wipe σ vs ∧ tt σ2 H2 fun b H3 =>
        if b = true then te σ2 H3 fun y H4 => ∃ acc, H4 D = some (.lst acc) ∧ acc.length < sizeLine ∧ Nx (upd H4 D (.lst (acc ++ [y]))) else Nx H3) := by
  refine ⟨fun i m H => m = kvs.length - i ∧ i ≤ kvs.length ∧ Pv i H, ⟨kvs.length, by simp, Nat.zero_le _, h0⟩, ?_⟩
  rintro i m H ⟨rfl, hi, p⟩
  by_cases hlt : i < kvs.length
  · refine .inr ⟨⟨hl i H hi p, hlt⟩, Pv (i + 1), fun H' p' => ⟨kvs.length - (i + 1), by omega, rfl, hlt, p'⟩, fun x H' y => ?_⟩
    obtain ⟨e, k, v, hk, ex⟩ := y
    subst e ex
    exact hs i k v _ hk p
  · have e : i = kvs.length := by omega
    subst e
    exact .inl ⟨⟨hl _ H hi p, Nat.le_refl _⟩, hd H p⟩
/-- a for over the keys of a locked dict -/
theorem for_keys {d : Addr} {o : Obj} {kvs : List (Key × V)} {g : TG} {tb : TS} {D : Ends} {σ : L2.St} {H : Hp} (Pv : Nat → L2.St → Hp → Prop) (h0 : Pv 0 σ H) (hl : ∀ i σ H, i ≤ kvs.length → Pv i σ H → H d = some (.frz o (.dK kvs)))
    (hs : ∀ i k v σ H, kvs[i]? = some (k, v) → Pv i σ H → g (kV k) σ H fun σ2 H2 => tb { D with nx := Pv (i + 1), ct := Pv (i + 1), bk := D.nx } σ2 H2) (hd : ∀ σ H, Pv kvs.length σ H → D.nx σ H) :
    ∃ W : Nat → Nat → L2.St → Hp → Prop, (∃ m, W 0 m σ H) ∧ ∀ i m σ H, W i m σ H →
      ((Itk d o kvs).stop i H ∧ D.nx σ H) ∨ ((Itk d o kvs).go i H ∧ ∃ N : L2.St → Hp → Prop, (∀ σ' H', N σ' H' → ∃ m', m' < m ∧ W (i + 1) m' σ' H') ∧ ∀ x H', (Itk d o kvs).yld i H x H' → g x σ H' fun σ2 H2 => tb { D with nx := N, ct := N, bk := D.nx } σ2 H2) := by
  refine ⟨fun i m σ H => m = kvs.length - i ∧ i ≤ kvs.length ∧ Pv i σ H, ⟨kvs.length, by simp, Nat.zero_le _, h0⟩, ?_⟩
  rintro i m σ H ⟨rfl, hi, p⟩
  by_cases hlt : i < kvs.length
  · refine .inr ⟨⟨hl i σ H hi p, hlt⟩, Pv (i + 1), fun σ' H' p' => ⟨kvs.length - (i + 1), by omega, rfl, hlt, p'⟩, fun x H' y => ?_⟩
    obtain ⟨e, k, v, hk, ex⟩ := y
    subst e ex
    exact hs i k v σ _ hk p
  · have e : i = kvs.length := by omega
    subst e
    exact .inl ⟨⟨hl _ σ H hi p, Nat.le_refl _⟩, hd σ H p⟩
/-- a field's reading, in a comprehension's block -/
theorem pe_fldK {X : Cx} {K : PySem.W.Frag} {e : Expr} {f : Str} {ta : TE} {pos : Pos} (hK : X.K = K) (he : PE X e ta) (hb : attributeBase e f X.env (eval e X.env) = eval e X.env) : PE X (.Attribute e f pos) (tFld K ta f) := by
  subst hK
  exact pe_fld he hb
end Tp

set_option Elab.async false
set_option linter.all false
set_option maxRecDepth 100000
set_option maxHeartbeats 2000000
/-! Calls of built-ins that the layer has no rule for: min of a list of tuples of ints, list(reversed(xs)). -/
namespace Tp
open PySem PySem.Spec PyProof.Rows L2

/-! ### the least of some tuples of ints -/
theorem lex_irr : ∀ a : List Int, HT.lexLt a a = false
  | [] => rfl
  | x :: l => by rw [HT.lexLt_cons, if_pos rfl]; exact lex_irr l
theorem lex_trans : ∀ {a b c : List Int}, HT.lexLt a b = true → HT.lexLt b c = true → HT.lexLt a c = true
  | [], [], c, h, _ => by rw [HT.lexLt_nil_nil] at h; cases h
  | [], _ :: _, [], _, h => by rw [HT.lexLt_cons_nil] at h; cases h
  | [], _ :: _, _ :: _, _, _ => HT.lexLt_nil_cons _ _
  | _ :: _, [], _, h, _ => by rw [HT.lexLt_cons_nil] at h; cases h
  | _ :: _, _ :: _, [], _, h => by rw [HT.lexLt_cons_nil] at h; cases h
  | x :: a, y :: b, z :: c, h1, h2 => by
    rw [HT.lexLt_cons] at h1 h2 ⊢
    by_cases e1 : x = y
    · subst e1
      rw [if_pos rfl] at h1
      by_cases e2 : x = z
      · subst e2
        rw [if_pos rfl] at h2 ⊢
        exact lex_trans h1 h2
      · rw [if_neg e2] at h2 ⊢
        exact h2
    · rw [if_neg e1] at h1
      have h1 := of_decide_eq_true h1
      by_cases e2 : y = z
      · subst e2
        rw [if_neg e1]
        exact decide_eq_true h1
      · rw [if_neg e2] at h2
        have h2 := of_decide_eq_true h2
        rw [if_neg (by omega)]
        exact decide_eq_true (by omega)
theorem best_is {bt : Nat → Nat → Bool} (irr : ∀ i, bt i i = false) (tr : ∀ i j k, bt i j = true → bt j k = true → bt i k = true) : ∀ n, argBest bt n ≤ n ∧ ∀ j, j ≤ n → bt j (argBest bt n) = false
  | 0 => ⟨Nat.le_refl _, fun j hj => by
      have : j = 0 := by omega
      subst this
      exact irr 0⟩
  | n + 1 => by
    obtain ⟨h1, h2⟩ := best_is irr tr n
    show (if bt (n + 1) (argBest bt n) then n + 1 else argBest bt n) ≤ n + 1 ∧ ∀ j, j ≤ n + 1 → bt j (if bt (n + 1) (argBest bt n) then n + 1 else argBest bt n) = false
    cases e : bt (n + 1) (argBest bt n) with
    | true =>
      rw [if_pos rfl]
      refine ⟨Nat.le_refl _, fun j hj => ?_⟩
      by_cases z : j = n + 1
      · rw [z]; exact irr _
      · cases ee : bt j (n + 1) with
        | false => rfl
        | true =>
          have := tr _ _ _ ee e
          rw [h2 j (by omega)] at this
          cases this
    | false =>
      rw [if_neg Bool.false_ne_true]
      refine ⟨by omega, fun j hj => ?_⟩
      by_cases z : j = n + 1
      · rw [z]; exact e
      · exact h2 j (by omega)
/-- all that lay there lies there still -/
def Kp (h h' : Heap) : Prop := ∀ b o, h.get? b = some o → h'.get? b = some o
section
variable {prog : Program} {w : World} {A : Around} {R : Result → Shared → Prop} {I S l : Addr} {its : Array Value} {h0 : Heap} {bt : Nat → Nat → Bool}
/-- how two of the items compare, wherever what lay there lies there still -/
def CmpAt (prog : Program) (w : World) (A : Around) (h0 : Heap) (its : Array Value) (bt : Nat → Nat → Bool) : Prop :=
  ∀ (i j : Nat) (vi vj : Value) (s : Shared) (Q E : Value → Shared → Prop), its[i]? = some vi → its[j]? = some vj → Kp h0 s.heap → Q (.bool (bt i j)) s → wpAny (model prog w) A.in1 (richCompare .Lt vi vj) Q E s
theorem least_go (hh : A.handled = none) (hlI : l ≠ I) (nS : S ∉ [I, l]) (zI : h0.get? I = none) (zS : h0.get? S = none) (hc : CmpAt prog w A h0 its bt) :
    ∀ (k j : Nat) (s : Shared) (vb : Value) (c : Nat), its.size - (j + 1) = k → j + 1 ≤ its.size → (s.heap.IsListIter I l (j + 1) ∧ s.heap.IsList l its) → Kp h0 s.heap → its[argBest bt j]? = some vb →
      s.heap.get? S = some { cls := .type "list", dict := none, data := .seq #[vb, vb] c, slots := #[] } →
      (∀ v h' tk, its[argBest bt (its.size - 1)]? = some v → Kp h0 h' → R (.ok (.ret v)) { s with heap := h', toks := tk }) →
      codeAny (model prog w) A (.builtin "min.loop" ⟨[.ref I, .none, .ref S], []⟩) R s := by
  have W := Walks.list (prog := prog) (w := w) (A := A.in1) hh I l hlI its
  have nW : S ∉ [I] := fun h => nS (W.sub _ h)
  have nm : ("min" ++ ".loop" : String) = "min.loop" := by decide
  have nm2 : (toString "min" ++ toString ".loop" : String) = "min.loop" := nm
  -- a change at I or at S leaves what lay there
  have kI : ∀ {h h' : Heap}, Kp h0 h → (∀ b o, b ∉ [I] → h.get? b = some o → h'.get? b = some o) → Kp h0 h' := fun k1 k2 b o e => k2 b o (fun m => by
    rw [List.mem_singleton.mp m, zI] at e
    cases e) (k1 b o e)
  have kS : ∀ {h : Heap} (f : Obj → Obj), Kp h0 h → Kp h0 (h.update S f) := fun f k1 b o e => (Heap.get?_update_other _ _ (fun z : S = b => by
    rw [← z, zS] at e
    cases e)).trans (k1 b o e)
  intro k
  induction k with
  | zero =>
    intro j s vb c hk hj st kp hb hS hR
    have hin : j + 1 = its.size := by omega
    refine codeAny_builtin PySem.F.entry_min_loop ?_; rw [Around.under_plainId PySem.F.plain_min_loop _]
    show wpAny _ A.in1 (seqItems? (.ref S) >>= _) _ _ s; refine wpAny_bind (wpAny_seqItems hS rfl ?_)
    show wpAny _ A.in1 (tryCatch (pyNext (.ref I)) _ >>= _) _ _ s; refine wpAny_bind (wpAny_tryCatch (W.done s _ _ (hin ▸ st) fun h1 tk1 k1 => ?_))
    have hS1 := k1 S _ nW hS
    show wpAny _ A.in1 (updateSeq S (fun _ => #[]) >>= _) _ _ _; refine wpAny_bind (wpAny_updateSeq hS1 rfl (wpAny_bind (wpAny_letGo (wpAny_pure ?_))))
    exact hR vb _ tk1 (by rw [← hin]; exact hb) (kS _ (kI kp k1))
  | succ k ih =>
    intro j s vb c hk hj st kp hb hS hR
    have hlt : j + 1 < its.size := by omega
    refine codeAny_builtin PySem.F.entry_min_loop ?_; rw [Around.under_plainId PySem.F.plain_min_loop _]
    show wpAny _ A.in1 (seqItems? (.ref S) >>= _) _ _ s; refine wpAny_bind (wpAny_seqItems hS rfl ?_)
    show wpAny _ A.in1 (tryCatch (pyNext (.ref I)) _ >>= _) _ _ s; refine wpAny_bind (wpAny_tryCatch (W.item (j + 1) s _ _ hlt st fun v h1 tk1 hv st1 k1 => ?_))
    have hS1 := k1 S _ nW hS
    have kp1 := kI kp k1
    show wpAny _ A.in1 (tryCatch (holding [v, v] (richCompare .Lt v vb >>= _)) _ >>= _) _ _ _; refine wpAny_bind (wpAny_tryCatch (wpAny_holding (wpAny_bind (hc (j + 1) (argBest bt j) v vb _ _ _ hv hb kp1 ?_))))
    refine wpAny_bind (wpAny_holding (wpAny_truthy_bool (wpAny_bind (wpAny_letGo (wpAny_pure ?_)))))
    cases e : bt (j + 1) (argBest bt j) with
    | true =>
      simp only [if_true]
      refine wpAny_bind (wpAny_updateSeq hS1 rfl (wpAny_bind (wpAny_letGo ?_)))
      rw [nm2]
      refine wpAny_pure ⟨plainId_quiet PySem.F.plain_min_loop _, ih (j + 1) _ v _ (by omega) hlt (W.frame _ _ _ st1 fun b hb' o e' => ?_) (kS _ kp1) (by simp only [argBest, e, if_true]; exact hv) (Heap.get?_update_self _ hS1 rfl) fun v2 h2 tk2 a1 a2 => hR v2 h2 tk2 a1 a2⟩
      exact (Heap.get?_update_other _ _ (fun z : S = b => nS (by rw [z]; exact hb'))).trans e'
    | false =>
      simp only [Bool.false_eq_true, if_false]
      refine wpAny_bind (wpAny_letGo ?_)
      rw [nm2]
      exact wpAny_pure ⟨plainId_quiet PySem.F.plain_min_loop _, ih (j + 1) _ vb c (by omega) hlt st1 kp1 (by simp only [argBest, e, Bool.false_eq_true, if_false]; exact hb) hS1 fun v2 h2 tk2 a1 a2 => hR v2 h2 tk2 a1 a2⟩
theorem least_of {E : Value → Shared → Prop} {s : Shared} {Q : Value → Shared → Prop} (hh : A.handled = none) (hl : s.heap.IsList l its) (hn : 0 < its.size) (hc : CmpAt prog w A s.heap its bt)
    (hQ : ∀ v h' tk, its[argBest bt (its.size - 1)]? = some v → Kp s.heap h' → Q v { s with heap := h', toks := tk }) : wpAny (model prog w) A (call (.builtin "min") [.ref l]) Q E s := by
  have nm : (toString "min" ++ toString ".loop" : String) = "min.loop" := (by decide : ("min" ++ ".loop" : String) = "min.loop")
  have hlt : l < s.heap.objs.size := by obtain ⟨_, e, _⟩ := hl; exact Heap.lt_size e
  refine call_function_tree PySem.F.kind_min PySem.F.plain_min PySem.F.entry_min (PySem.F.args_min1 _) ?_
  show wpAny _ A.in1 (Builtin.Builtins.bindParams "min" ["key", "default"] 0 ⟨[], []⟩ >>= _) _ _ s; refine wpAny_bind (wpAny_of_eq (show Builtin.Builtins.bindParams "min" ["key", "default"] 0 ⟨[], []⟩ = pure [none, none] from rfl) (wpAny_bind (wpAny_pure ?_)))
  refine wpAny_bind (wpAny_pyIter_list hl (wpAny_bind (wpAny_newObj_type ?_)))
  rw [nm]
  generalize hI : s.heap.objs.size = I
  have zI : s.heap.get? I = none := by
    cases e : s.heap.get? I with
    | none => rfl
    | some o => exact absurd (Heap.lt_size e) (by rw [hI]; exact Nat.lt_irrefl _)
  have hlI : l ≠ I := by rw [← hI]; exact Nat.ne_of_lt hlt
  generalize hh1 : s.heap.push { cls := .type "list_iterator", data := .fields #[.ref l, .int 0 0] } = h1
  have gI : h1.IsListIter I l 0 := by rw [← hh1, ← hI]; exact ⟨_, Heap.get?_push_size _ rfl, rfl, rfl⟩
  have k01 : Kp s.heap h1 := fun b o e => by rw [← hh1]; exact Heap.get?_push_of_some _ e
  have hs1 : h1.objs.size = I + 1 := by rw [← hh1, Heap.size_push, hI]
  have zS : s.heap.get? h1.objs.size = none := by
    cases e : s.heap.get? h1.objs.size with
    | none => rfl
    | some o => exact absurd (Heap.lt_size e) (by rw [hs1, hI]; exact Nat.not_lt.mpr (Nat.le_succ _))
  have nS : h1.objs.size ∉ [I, l] := by
    rw [hs1]
    intro m
    rcases List.mem_cons.mp m with z | z
    · exact Nat.succ_ne_self _ z
    · have z := List.mem_singleton.mp z
      rw [hI, ← z] at hlt
      exact absurd hlt (Nat.not_lt.mpr (Nat.le_succ _))
  have hS : (h1.push { cls := .type "list", data := .seq #[] }).get? h1.objs.size = some { cls := .type "list", data := .seq #[] } := Heap.get?_push_size _ rfl
  generalize hh2 : h1.push { cls := .type "list", data := .seq #[] } = h2 at hS
  have k12 : Kp h1 h2 := fun b o e => by rw [← hh2]; exact Heap.get?_push_of_some _ e
  generalize h1.objs.size = S at *
  have W := Walks.list (prog := prog) (w := w) (A := A.in1) hh I l hlI its
  have nW : S ∉ [I] := fun h => nS (W.sub _ h)
  have nm2 : (toString "min" ++ toString ".loop" : String) = "min.loop" := nm
  refine wpAny_pure ⟨plainId_quiet PySem.F.plain_min_loop _, ?_⟩
  refine codeAny_builtin PySem.F.entry_min_loop ?_; rw [Around.under_plainId PySem.F.plain_min_loop _]
  show wpAny _ A.in1 (seqItems? (.ref S) >>= _) _ _ _; refine wpAny_bind (wpAny_seqItems hS rfl ?_)
  have st0 : h2.IsListIter I l 0 ∧ h2.IsList l its := ⟨gI.at fun o e => k12 _ _ e, hl.at fun o e => k12 _ _ (k01 _ _ e)⟩
  show wpAny _ A.in1 (tryCatch (pyNext (.ref I)) _ >>= _) _ _ _; refine wpAny_bind (wpAny_tryCatch (W.item 0 _ _ _ hn st0 fun v h3 tk3 hv st3 k3 => ?_))
  have hS3 := k3 S _ nW hS
  show wpAny _ A.in1 (updateSeq S (fun _ => #[v, v]) >>= _) _ _ _; refine wpAny_bind (wpAny_updateSeq hS3 rfl ?_)
  rw [nm2]
  have kp3 : Kp s.heap h3 := fun b o e => k3 b o (fun m => by
    rw [List.mem_singleton.mp m, zI] at e
    cases e) (k12 _ _ (k01 _ _ e))
  refine wpAny_pure ⟨plainId_quiet PySem.F.plain_min_loop _, least_go hh hlI nS zI zS hc _ 0 _ v _ rfl hn (W.frame _ _ _ st3 fun b hb' o e' => ?_) (fun b o e => ?_) hv (Heap.get?_update_self _ hS3 rfl) fun v2 h4 tk4 a1 a2 => hQ v2 h4 tk4 a1 a2⟩
  · exact (Heap.get?_update_other _ _ (fun z : S = b => nS (by rw [z]; exact hb'))).trans e'
  · refine (Heap.get?_update_other _ _ (fun z : S = b => ?_)).trans (kp3 _ _ e)
    rw [← z, zS] at e
    cases e
end
/-- min(xs) of a list of tuples of ints -/
def rMinT (K : PySem.W.Frag) : List V → Hp → VK → Prop := fun vs H Q => ∃ (a : Addr) (ts : List Addr) (ks : List (List Int)), vs = [V.ref a] ∧ SqL K H a (ts.map V.ref) ∧ Paired (fun t k => SqT K H t (k.map V.int)) ts ks ∧ 0 < ts.length ∧
  ∀ (i : Nat) t k, ts[i]? = some t → ks[i]? = some k → (∀ k' ∈ ks, HT.lexLt k' k = false) → Q (.ref t) H
theorem pairedAt {α β : Type} {F : α → β → Prop} : ∀ {l : List α} {m : List β}, Paired F l m → ∀ {i : Nat} {x : α}, l[i]? = some x → ∃ y, m[i]? = some y ∧ F x y
  | _, _, .nil, i, y, h => by simp at h
  | _, _, .cons r t, 0, y, h => by
    have e := Option.some.inj h
    subst e
    exact ⟨_, rfl, r⟩
  | _, _, .cons r t, i + 1, y, h => pairedAt t (i := i) h
theorem pairedLen {α β : Type} {F : α → β → Prop} : ∀ {l : List α} {m : List β}, Paired F l m → l.length = m.length
  | _, _, .nil => rfl
  | _, _, .cons r t => congrArg (· + 1) (pairedLen t)
theorem vals_refs : ∀ {ts : List Addr} {us : List Value}, Vals (ts.map V.ref) us → us = ts.map Value.ref
  | [], us, h => by cases h; rfl
  | t :: ts, us, h => by
    cases h with
    | cons r rs => cases r; rw [vals_refs rs]; rfl
theorem cr_minT {X : Cx} (hc : X.calm = true) (hu : X.A.units + 1 < cLine) : CallR X (.builtin "min") (rMinT X.K) := by
  intro pins s σ H vs us Q I r h
  obtain ⟨a, ts, ks, rfl, hs, hp, hn, q⟩ := h
  obtain ⟨its, rv, hl, _⟩ := I.list hs
  have e := vals_refs rv
  subst e
  rw [Vals.ref1 r]
  have hlen := pairedLen hp
  refine least_of (bt := fun i j => HT.lexLt (ks.getD i []) (ks.getD j [])) (I.ok.hd hc) hl.isList (by simpa using hn) (fun i j vi vj s' Q' E' hi hj kp hq => ?_) (fun v h' tk hv kp => ?_)
  · have hi : (ts.map Value.ref)[i]? = some vi := by simpa using hi
    have hj : (ts.map Value.ref)[j]? = some vj := by simpa using hj
    rw [List.getElem?_map] at hi hj
    cases ei : ts[i]? with
    | none => rw [ei] at hi; cases hi
    | some t1 =>
      cases ej : ts[j]? with
      | none => rw [ej] at hj; cases hj
      | some t2 =>
        rw [ei] at hi
        rw [ej] at hj
        have hi : Value.ref t1 = vi := Option.some.inj hi
        have hj : Value.ref t2 = vj := Option.some.inj hj
        subst hi hj
        obtain ⟨k1, f1, g1⟩ := pairedAt hp ei
        obtain ⟨k2, f2, g2⟩ := pairedAt hp ej
        obtain ⟨i1, r1, p1, _⟩ := I.tuple g1
        obtain ⟨i2, r2, p2, _⟩ := I.tuple g2
        have p1' : IsTup s'.heap t1 i1.toArray := let ⟨o, e, c⟩ := p1; ⟨o, kp _ _ e, c⟩
        have p2' : IsTup s'.heap t2 i2.toArray := let ⟨o, e, c⟩ := p2; ⟨o, kp _ _ e, c⟩
        refine HT.lt_tupInts p1' p2' (intsAre_of r1) (intsAre_of r2) hu ?_
        dsimp only at hq
        rw [List.getD_eq_getElem?_getD, List.getD_eq_getElem?_getD, f1, f2] at hq
        exact hq
  · have best := best_is (bt := fun i j => HT.lexLt (ks.getD i []) (ks.getD j [])) (fun i => lex_irr _) (fun i j k h1 h2 => lex_trans h1 h2) ((ts.map Value.ref).toArray.size - 1)
    generalize argBest (fun i j => HT.lexLt (ks.getD i []) (ks.getD j [])) ((ts.map Value.ref).toArray.size - 1) = m at best hv
    have hv : (ts.map Value.ref)[m]? = some v := by simpa using hv
    rw [List.getElem?_map] at hv
    cases em : ts[m]? with
    | none => rw [em] at hv; cases hv
    | some t =>
      rw [em] at hv
      have hv : Value.ref t = v := Option.some.inj hv
      subst hv
      obtain ⟨k, f, g⟩ := pairedAt hp em
      refine ⟨.ref t, H, I.kept kp, rfl, q m t k em f fun k' hk' => ?_⟩
      obtain ⟨j, hj, ej⟩ := List.getElem_of_mem hk'
      have := best.2 j (by simp only [List.size_toArray, List.length_map]; omega)
      rw [List.getD_eq_getElem?_getD, List.getD_eq_getElem?_getD, f, List.getElem?_eq_getElem hj, ej] at this
      exact this
/-! ### list(reversed(xs)) -/
theorem rev_nolen : typeLookup (.type "list_reverseiterator") "__len__" = pure none := by rw [typeLookup_type, builtinLookup_eq_fast]; kernel_rfl
theorem rev_hint : typeLookup (.type "list_reverseiterator") "__length_hint__" = pure (some (.builtin "list_reverseiterator.__length_hint__")) := by rw [typeLookup_type, builtinLookup_eq_fast]; kernel_rfl
section
variable {prog : Program} {w : World} {A : Around} {E : Value → Shared → Prop} {s : Shared} {I l : Addr} {its : Array Value}
theorem hint_rev {Q : Bool → Shared → Prop} (hT : s.TypeIs (.ref I) "list_reverseiterator") (h : Q false s) : wpAny (model prog w) A (Builtin.List.listLengthHint (.ref I)) Q E s := by
  unfold Builtin.List.listLengthHint
  refine wpAny_bind (wpAny_specialOf hT rev_nolen ?_)
  show wpAny _ A (specialOf (Value.ref I) (Str.ofString "__length_hint__") >>= _) _ _ _; refine wpAny_bind (wpAny_specialOf hT rev_hint ?_)
  generalize hid : ("list_reverseiterator.__length_hint__" : String) = id1; wp_delta; rw [show splitId id1 = some ("list_reverseiterator", "__length_hint__") from by subst hid; decide +kernel]; subst hid
  refine wpAny_bind (wpAny_isInstance (T := "list_reverseiterator") (b := true) hT (by rw [isSubtype_type]; kernel_rfl) ?_)
  exact wpAny_pure h
theorem list_rev {Q : Value → Shared → Prop} (hh : A.handled = none) (hI : s.heap.IsRevIter I l ((its.size : Int) - 1)) (hl : s.heap.IsList l its) (hne : l ≠ I) (hz : its.size ≤ sizeLine)
    (hQ : ∀ h' tk acc c, (∀ b o, b ≠ I → s.heap.get? b = some o → h'.get? b = some o) → h'.get? s.heap.objs.size = some { cls := .type "list", dict := none, data := .seq acc c, slots := #[] } → ItemsOf (fun i v => its[its.size - 1 - i]? = some v) acc its.size → Q (.ref s.heap.objs.size) { s with heap := h', toks := tk }) :
    wpAny (model prog w) A (call (.type "list") [.ref I]) Q E s := by
  refine callType_codes (Q₁ := fun ob t => ob = .ref s.heap.objs.size ∧ t = { s with heap := s.heap.push { cls := .type "list", data := .seq #[] } }) PySem.F.called_list (PySem.F.typeCall_list_1 _) PySem.F.entry_list_init (code_list_new _ ⟨rfl, rfl⟩) fun ob t e => ?_
  obtain ⟨rfl, rfl⟩ := e
  have ltI : I < s.heap.objs.size := let ⟨_, e, _⟩ := hI; Heap.lt_size e
  have ltl : l < s.heap.objs.size := let ⟨_, e, _⟩ := hl; Heap.lt_size e
  have hS : (s.heap.push { cls := .type "list", data := .seq #[] }).get? s.heap.objs.size = some { cls := .type "list", data := .seq #[] } := Heap.get?_push_size _ rfl
  have k0 : Kp s.heap (s.heap.push { cls := .type "list", data := .seq #[] }) := fun b o e => Heap.get?_push_of_some _ e
  refine ⟨⟨_, hS, rfl⟩, PySem.F.args_list_init_2 _ _, ?_⟩
  generalize hh1 : s.heap.push { cls := .type "list", data := .seq #[] } = h1 at hS k0 ⊢
  generalize hSz : s.heap.objs.size = S at *
  have nS : S ∉ [I, l] := fun m => by
    rcases List.mem_cons.mp m with z | z
    · exact absurd ltI (by rw [z]; exact Nat.lt_irrefl _)
    · exact absurd ltl (by rw [List.mem_singleton.mp z]; exact Nat.lt_irrefl _)
  have nSI : S ≠ I := fun z => nS (by rw [z]; exact List.mem_cons_self)
  show wpAny _ _ (do let old ← Builtin.List.listItems (.ref S); Builtin.List.listUpdate (.ref S) (fun _ => #[]); letGo old.toList.reverse; Builtin.List.listExtendWith (.ref S) (.ref I) .none) _ _ _; refine wpAny_bind ?_
  unfold Builtin.List.listItems; refine wpAny_bind (wpAny_seqItems hS rfl (wpAny_pure ?_))
  show wpAny _ _ (updateSeq S (fun _ => #[]) >>= fun _ => letGo (#[] : Array Value).toList.reverse >>= fun _ => Builtin.List.listExtendWith (.ref S) (.ref I) .none) _ _ _; refine wpAny_bind (wpAny_updateSeq hS rfl ?_)
  have hS2 := Heap.get?_update_self (Obj.mapSeq (fun _ => (#[] : Array Value))) hS rfl
  have k2 : ∀ b o, b ≠ S → h1.get? b = some o → (h1.update S (Obj.mapSeq (fun _ => (#[] : Array Value)))).get? b = some o := fun b o hb e => (Heap.get?_update_other _ _ (Ne.symm hb)).trans e
  generalize h1.update S (Obj.mapSeq (fun _ => (#[] : Array Value))) = h2 at hS2 k2 ⊢
  have nIS : I ≠ S := Ne.symm nSI
  have nlS : l ≠ S := fun z => nS (by rw [← z]; exact List.mem_cons_of_mem _ List.mem_cons_self)
  have hI2 : h2.IsRevIter I l ((its.size : Int) - 1) := hI.at fun o e => k2 _ _ nIS (k0 _ _ e)
  have hl2 : h2.IsList l its := hl.at fun o e => k2 _ _ nlS (k0 _ _ e)
  have W := (Walks.listRev (prog := prog) (w := w) (A := A.in1.in1) hh I l hne its)
  refine wpAny_bind (wpAny_letGo ?_)
  unfold Builtin.List.listExtendWith; refine wpAny_bind (wpAny_typeOf (T := "list_reverseiterator") (Heap.IsRevIter.typeIs hI2) ?_)
  have g1 : Builtin.List.listSameRef (.ref S) (.ref I) = false := by simp [Builtin.List.listSameRef, nSI]
  rw [if_neg (by rw [g1]; decide)]
  refine wpAny_bind (wpAny_pyIter_revIter hI2 ?_)
  refine wpAny_bind (wpAny_holding (hint_rev (Heap.IsRevIter.typeIs hI2) ?_))
  rw [if_neg (by decide)]
  refine wpAny_pure ⟨plainId_quiet PySem.F.plain_extend_loop _, codeAny_extend_loopS W.toS hz S nS .none its.size 0 _ #[] _ rfl (Nat.zero_le _) ⟨Nat.zero_le _, ?_, hl2⟩ hS2 (ItemsOf.nil _) fun s3 acc c hm hS3 hacc => ?_⟩
  · have : (its.size : Int) - 1 - ((0 : Nat) : Int) = (its.size : Int) - 1 := by omega
    rw [this]
    exact hI2
  · rw [Moved.eq_with hm]
    refine ⟨rfl, hQ s3.heap s3.toks acc c (fun b o hb e => ?_) hS3 hacc⟩
    have nb : b ≠ S := fun z => absurd (Heap.lt_size e) (by rw [z, hSz]; exact Nat.lt_irrefl _)
    refine hm.heap b o (fun m => ?_) (k2 b o nb (k0 _ _ e))
    rcases List.mem_cons.mp m with z | z
    · exact nb z
    · exact hb (List.mem_singleton.mp z)
end
/-- list(reversed(e)) -/
def tListRev (K : PySem.W.Frag) (ta : TA) : TE := fun σ H Q => ta σ H fun vs H1 => ∃ (a : Addr) (xs : List V), vs = [.ref a] ∧ SqL K H1 a xs ∧ ∀ r, H1 r = none → Q (.ref r) (upd H1 r (.lst xs.reverse))
theorem vals_rev {xs : List V} {us : List Value} : Vals xs us → Vals xs.reverse us.reverse := by
  intro h
  induction h with
  | nil => exact .nil
  | cons r _ ih => rw [List.reverse_cons, List.reverse_cons]; exact ih.append (.cons r .nil)
theorem pe_listrev {X : Cx} {e : Expr} {ta : TA} {p1 p2 q1 q2 : Pos} (hc : X.calm = true) (g1 : Gl X "list") (m1 : X.mg "list" = none) (g2 : Gl X "reversed") (m2 : X.mg "reversed" = none) (ha : PA X [e] ta)
    (hs : starEach [e] X.env = [(false, eval e X.env)] := by rfl) (hs2 : starEach [Expr.Call (.Name "reversed" p2) [e] [] q2] X.env = [(false, eval (.Call (.Name "reversed" p2) [e] [] q2) X.env)] := by rfl) :
    PE X (.Call (.Name "list" p1) [.Call (.Name "reversed" p2) [e] [] q2] [] q1) (tListRev X.K ta) := by
  intro pins s σ H Q I h
  refine Call_ (ld_blt I g1 m1 PyProof.Rows.boot_list (PyProof.Rows.callWith_type1 ?_ hs2 rfl))
  rw [hs2]
  show wpAny _ _ (spliced ((false, eval (.Call (.Name "reversed" p2) [e] [] q2) X.env) :: [])) _ _ s
  refine Calls.spliced_cons (Call_ (ld_blt I g2 m2 boot_reversed5 (PyProof.Rows.callWith_type1 (thn (ha q2 pins s σ H _ I h) fun us s1 ⟨vs, H1, I1, r1, k1⟩ => ?_) hs rfl)))
  obtain ⟨a, xs, rfl, hq, k⟩ := k1
  rw [Vals.ref1 r1]
  obtain ⟨its, rv, pl, hz⟩ := I1.list hq
  have hlen := rv.length
  have lta := pl.lt
  refine call_reversed_list pl.isList (Calls.spliced_nil ?_)
  have hI : (s1.heap.push (revObj a ((its.toArray.size : Int) - 1))).IsRevIter s1.heap.objs.size a ((its.toArray.size : Int) - 1) := ⟨_, Heap.get?_push_size _ rfl, rfl, rfl⟩
  have k0 : Kp s1.heap (s1.heap.push (revObj a ((its.toArray.size : Int) - 1))) := fun b o e => Heap.get?_push_of_some _ e
  have sz : (s1.heap.push (revObj a ((its.toArray.size : Int) - 1))).objs.size = s1.heap.objs.size + 1 := Heap.size_push ..
  refine list_rev (I1.ok.hd hc) hI (pl.isList.at fun o e => k0 _ _ e) (Nat.ne_of_lt lta) (by rw [List.size_toArray]; omega) fun h' tk acc c kk hS hacc => ?_
  have eacc : acc = its.reverse.toArray := by
    apply Array.ext_getElem?
    intro i
    obtain ⟨n1, n2⟩ := hacc
    have n1 : acc.size = its.length := n1
    by_cases hi : i < acc.size
    · have := n2 i _ (Array.getElem?_eq_getElem hi)
      rw [Array.getElem?_eq_getElem hi, ← this]
      have hi' : i < its.length := by omega
      simp only [List.size_toArray, List.getElem?_toArray]
      rw [List.getElem?_reverse hi']
    · rw [Array.getElem?_eq_none (by omega)]
      simp only [List.getElem?_toArray]
      rw [List.getElem?_eq_none (by rw [List.length_reverse]; omega)]
  subst eacc
  refine ⟨.ref _, _, I1.laid (a := _) (o := .lst xs.reverse) (t' := tk) (fun b u e => kk b u (fun z => ?_) (k0 _ _ e)) ?_ ?_, rfl, k _ (I1.hok.fresh ?_)⟩
  · rw [z] at e
    exact absurd (Heap.lt_size e) (Nat.lt_irrefl _)
  · rw [sz]; exact Nat.le_succ _
  · exact ⟨by rw [List.length_reverse]; exact hz, its.reverse, c, vals_rev rv, hS⟩
  · rw [sz]; exact Nat.le_succ _
end Tp

set_option Elab.async false
set_option linter.all false
set_option maxRecDepth 100000
set_option maxHeartbeats 2000000
namespace Tp
open PySem PySem.Spec PyProof.Rows L2
/-! ### the text by places (written by gen.py) -/
def top (i : Nat) : Stmt := PySem.Challenge.pw_timewent_s01_answers.main.body.getD i (.Pass ⟨0, 0, 0, 0⟩)
abbrev s_Piece_init : Stmt := inClass (top 6) 0
abbrev s_Piece_has_time_between : Stmt := inClass (top 6) 1
abbrev s_Stretch_init : Stmt := inClass (top 7) 0
abbrev s_Stretch_how_long : Stmt := inClass (top 7) 1
abbrev s_Request_init : Stmt := inClass (top 8) 0
abbrev s_Request_tell : Stmt := inClass (top 8) 1
abbrev s_Request_comes_to : Stmt := inClass (top 8) 2
abbrev s_Request_lies_within_whole : Stmt := inClass (top 8) 3
abbrev s_Request_apart : Stmt := inClass (top 8) 4
abbrev s_Request_path : Stmt := inClass (top 8) 5
abbrev s_Request_time : Stmt := inClass (top 8) 6
abbrev s_Request_time_of_kind : Stmt := inClass (top 8) 7
abbrev s_Request_parts : Stmt := inClass (top 8) 8
abbrev s_Request_last_one : Stmt := inClass (top 8) 9
abbrev s_Requests_init : Stmt := inClass (top 19) 0
abbrev s_Requests_begin : Stmt := inClass (top 19) 1
abbrev s_Requests_tell : Stmt := inClass (top 19) 2
abbrev s_Requests_apart : Stmt := inClass (top 19) 3
abbrev s_Requests_path : Stmt := inClass (top 19) 4
abbrev s_Requests_time : Stmt := inClass (top 19) 5
abbrev s_Requests_time_of_kind : Stmt := inClass (top 19) 6
abbrev s_answer_call : Stmt := top 20
abbrev s_answers : Stmt := top 21
theorem sc_Piece_init : FnScope (["self", "within", "since", "to", "kind"]) ["self", "within", "since", "to", "kind"] (defScope s_Piece_init) := ⟨rfl, rfl, rfl, by decide +kernel, rfl, by decide +kernel, by decide +kernel⟩
theorem sc_Piece_has_time_between : FnScope (["self", "lo", "hi"]) ["self", "lo", "hi"] (defScope s_Piece_has_time_between) := ⟨rfl, rfl, rfl, by decide +kernel, rfl, by decide +kernel, by decide +kernel⟩
theorem sc_Stretch_init : FnScope (["self", "piece_id", "lo", "hi"]) ["self", "piece_id", "lo", "hi"] (defScope s_Stretch_init) := ⟨rfl, rfl, rfl, by decide +kernel, rfl, by decide +kernel, by decide +kernel⟩
theorem sc_Stretch_how_long : FnScope (["self"]) ["self"] (defScope s_Stretch_how_long) := ⟨rfl, rfl, rfl, by decide +kernel, rfl, by decide +kernel, by decide +kernel⟩
theorem sc_Request_init : FnScope (["self"]) ["self"] (defScope s_Request_init) := ⟨rfl, rfl, rfl, by decide +kernel, rfl, by decide +kernel, by decide +kernel⟩
theorem sc_Request_tell : FnScope (["self", "piece_id", "piece"]) ["self", "piece_id", "piece"] (defScope s_Request_tell) := ⟨rfl, rfl, rfl, by decide +kernel, rfl, by decide +kernel, by decide +kernel⟩
theorem sc_Request_comes_to : FnScope (["self", "start_id", "piece_id", "at"]) ["self", "start_id", "piece_id"] (defScope s_Request_comes_to) := ⟨rfl, rfl, rfl, by decide +kernel, rfl, by decide +kernel, by decide +kernel⟩
theorem sc_Request_lies_within_whole : FnScope (["self", "piece_id"]) ["self", "piece_id"] (defScope s_Request_lies_within_whole) := ⟨rfl, rfl, rfl, by decide +kernel, rfl, by decide +kernel, by decide +kernel⟩
theorem sc_Request_apart : FnScope (["self", "piece_id"]) ["self"] (defScope s_Request_apart) := ⟨rfl, rfl, rfl, by decide +kernel, rfl, by decide +kernel, by decide +kernel⟩
theorem sc_Request_path : FnScope (["self", "parts", "answered", "part"]) ["self"] (defScope s_Request_path) := ⟨rfl, rfl, rfl, by decide +kernel, rfl, by decide +kernel, by decide +kernel⟩
theorem sc_Request_time : FnScope (["self", "piece_id", "part"]) ["self", "piece_id"] (defScope s_Request_time) := ⟨rfl, rfl, rfl, by decide +kernel, rfl, by decide +kernel, by decide +kernel⟩
theorem sc_Request_time_of_kind : FnScope (["self", "kind", "part"]) ["self", "kind"] (defScope s_Request_time_of_kind) := ⟨rfl, rfl, rfl, by decide +kernel, rfl, by decide +kernel, by decide +kernel⟩
theorem sc_Request_parts : FnScope (["self", "whole", "waiting", "found", "stretch", "last_id", "own_since", "last", "last_since"]) ["self"] (defScope s_Request_parts) := ⟨rfl, rfl, rfl, by decide +kernel, rfl, by decide +kernel, by decide +kernel⟩
theorem sc_Request_last_one : FnScope (["self", "stretch", "ranks", "piece_id", "piece"]) ["self", "stretch"] (defScope s_Request_last_one) := ⟨rfl, rfl, rfl, by decide +kernel, rfl, by decide +kernel, by decide +kernel⟩
theorem sc_Requests_init : FnScope (["self"]) ["self"] (defScope s_Requests_init) := ⟨rfl, rfl, rfl, by decide +kernel, rfl, by decide +kernel, by decide +kernel⟩
theorem sc_Requests_begin : FnScope (["self", "number"]) ["self"] (defScope s_Requests_begin) := ⟨rfl, rfl, rfl, by decide +kernel, rfl, by decide +kernel, by decide +kernel⟩
theorem sc_Requests_tell : FnScope (["self", "request", "piece_id", "within", "since", "to", "kind"]) ["self", "request", "piece_id", "within", "since", "to", "kind"] (defScope s_Requests_tell) := ⟨rfl, rfl, rfl, by decide +kernel, rfl, by decide +kernel, by decide +kernel⟩
theorem sc_Requests_apart : FnScope (["self", "request"]) ["self", "request"] (defScope s_Requests_apart) := ⟨rfl, rfl, rfl, by decide +kernel, rfl, by decide +kernel, by decide +kernel⟩
theorem sc_Requests_path : FnScope (["self", "request"]) ["self", "request"] (defScope s_Requests_path) := ⟨rfl, rfl, rfl, by decide +kernel, rfl, by decide +kernel, by decide +kernel⟩
theorem sc_Requests_time : FnScope (["self", "request", "piece_id"]) ["self", "request", "piece_id"] (defScope s_Requests_time) := ⟨rfl, rfl, rfl, by decide +kernel, rfl, by decide +kernel, by decide +kernel⟩
theorem sc_Requests_time_of_kind : FnScope (["self", "kind", "request"]) ["self", "kind"] (defScope s_Requests_time_of_kind) := ⟨rfl, rfl, rfl, by decide +kernel, rfl, by decide +kernel, by decide +kernel⟩
theorem sc_answer_call : FnScope (["requests", "call", "numbers"]) ["requests", "call", "numbers"] (defScope s_answer_call) := ⟨rfl, rfl, rfl, by decide +kernel, rfl, by decide +kernel, by decide +kernel⟩
theorem sc_answers : FnScope (["calls", "requests", "given", "at", "call", "behind", "answered"]) ["calls"] (defScope s_answers) := ⟨rfl, rfl, rfl, by decide +kernel, rfl, by decide +kernel, by decide +kernel⟩
/-! ### the classes' fields -/
def F_Piece (v_within v_since v_to v_kind : V) : List (Str × V) := putF "kind" v_kind (putF "to" v_to (putF "since" v_since (putF "within" v_within [])))
theorem F_Piece_eq (v_within v_since v_to v_kind : V) : F_Piece v_within v_since v_to v_kind = [(("within" : Str), v_within), (("since" : Str), v_since), (("to" : Str), v_to), (("kind" : Str), v_kind)] := by
  unfold F_Piece
  simp only [putF_nil, putF_miss (show ¬ ("within" : Str) = "since" by decide +kernel), putF_miss (show ¬ ("within" : Str) = "to" by decide +kernel), putF_miss (show ¬ ("since" : Str) = "to" by decide +kernel), putF_miss (show ¬ ("within" : Str) = "kind" by decide +kernel), putF_miss (show ¬ ("since" : Str) = "kind" by decide +kernel), putF_miss (show ¬ ("to" : Str) = "kind" by decide +kernel)]
theorem F_Piece_len (v_within v_since v_to v_kind : V) : (F_Piece v_within v_since v_to v_kind).length < 1000 := by
  rw [F_Piece_eq]
  show 4 < 1000
  decide
theorem F_Piece_within (v_within v_since v_to v_kind : V) : (F_Piece v_within v_since v_to v_kind).lookup ("within" : Str) = some v_within := by
  unfold F_Piece
  rw [lookup_putF, if_neg (show ¬ ("within" : Str) = "kind" by decide +kernel), lookup_putF, if_neg (show ¬ ("within" : Str) = "to" by decide +kernel), lookup_putF, if_neg (show ¬ ("within" : Str) = "since" by decide +kernel), lookup_putF, if_pos rfl]
theorem F_Piece_put_within (v_within v_since v_to v_kind x : V) : putF "within" x (F_Piece v_within v_since v_to v_kind) = F_Piece x v_since v_to v_kind := by
  rw [F_Piece_eq, F_Piece_eq]
  simp only [putF_hit]
theorem F_Piece_since (v_within v_since v_to v_kind : V) : (F_Piece v_within v_since v_to v_kind).lookup ("since" : Str) = some v_since := by
  unfold F_Piece
  rw [lookup_putF, if_neg (show ¬ ("since" : Str) = "kind" by decide +kernel), lookup_putF, if_neg (show ¬ ("since" : Str) = "to" by decide +kernel), lookup_putF, if_pos rfl]
theorem F_Piece_put_since (v_within v_since v_to v_kind x : V) : putF "since" x (F_Piece v_within v_since v_to v_kind) = F_Piece v_within x v_to v_kind := by
  rw [F_Piece_eq, F_Piece_eq]
  simp only [putF_hit, putF_miss (show ¬ ("within" : Str) = "since" by decide +kernel)]
theorem F_Piece_to (v_within v_since v_to v_kind : V) : (F_Piece v_within v_since v_to v_kind).lookup ("to" : Str) = some v_to := by
  unfold F_Piece
  rw [lookup_putF, if_neg (show ¬ ("to" : Str) = "kind" by decide +kernel), lookup_putF, if_pos rfl]
theorem F_Piece_put_to (v_within v_since v_to v_kind x : V) : putF "to" x (F_Piece v_within v_since v_to v_kind) = F_Piece v_within v_since x v_kind := by
  rw [F_Piece_eq, F_Piece_eq]
  simp only [putF_hit, putF_miss (show ¬ ("within" : Str) = "to" by decide +kernel), putF_miss (show ¬ ("since" : Str) = "to" by decide +kernel)]
theorem F_Piece_kind (v_within v_since v_to v_kind : V) : (F_Piece v_within v_since v_to v_kind).lookup ("kind" : Str) = some v_kind := by
  unfold F_Piece
  rw [lookup_putF, if_pos rfl]
theorem F_Piece_put_kind (v_within v_since v_to v_kind x : V) : putF "kind" x (F_Piece v_within v_since v_to v_kind) = F_Piece v_within v_since v_to x := by
  rw [F_Piece_eq, F_Piece_eq]
  simp only [putF_hit, putF_miss (show ¬ ("within" : Str) = "kind" by decide +kernel), putF_miss (show ¬ ("since" : Str) = "kind" by decide +kernel), putF_miss (show ¬ ("to" : Str) = "kind" by decide +kernel)]
theorem F_Piece_no (v_within v_since v_to v_kind : V) {m : Str} (h_within : ¬ m = "within") (h_since : ¬ m = "since") (h_to : ¬ m = "to") (h_kind : ¬ m = "kind") : (F_Piece v_within v_since v_to v_kind).lookup m = none := by
  unfold F_Piece
  rw [lookup_putF, if_neg h_kind, lookup_putF, if_neg h_to, lookup_putF, if_neg h_since, lookup_putF, if_neg h_within]
  rfl
def F_Stretch (v_piece_id v_lo v_hi : V) : List (Str × V) := putF "hi" v_hi (putF "lo" v_lo (putF "piece_id" v_piece_id []))
theorem F_Stretch_eq (v_piece_id v_lo v_hi : V) : F_Stretch v_piece_id v_lo v_hi = [(("piece_id" : Str), v_piece_id), (("lo" : Str), v_lo), (("hi" : Str), v_hi)] := by
  unfold F_Stretch
  simp only [putF_nil, putF_miss (show ¬ ("piece_id" : Str) = "lo" by decide +kernel), putF_miss (show ¬ ("piece_id" : Str) = "hi" by decide +kernel), putF_miss (show ¬ ("lo" : Str) = "hi" by decide +kernel)]
theorem F_Stretch_len (v_piece_id v_lo v_hi : V) : (F_Stretch v_piece_id v_lo v_hi).length < 1000 := by
  rw [F_Stretch_eq]
  show 3 < 1000
  decide
theorem F_Stretch_piece_id (v_piece_id v_lo v_hi : V) : (F_Stretch v_piece_id v_lo v_hi).lookup ("piece_id" : Str) = some v_piece_id := by
  unfold F_Stretch
  rw [lookup_putF, if_neg (show ¬ ("piece_id" : Str) = "hi" by decide +kernel), lookup_putF, if_neg (show ¬ ("piece_id" : Str) = "lo" by decide +kernel), lookup_putF, if_pos rfl]
theorem F_Stretch_put_piece_id (v_piece_id v_lo v_hi x : V) : putF "piece_id" x (F_Stretch v_piece_id v_lo v_hi) = F_Stretch x v_lo v_hi := by
  rw [F_Stretch_eq, F_Stretch_eq]
  simp only [putF_hit]
theorem F_Stretch_lo (v_piece_id v_lo v_hi : V) : (F_Stretch v_piece_id v_lo v_hi).lookup ("lo" : Str) = some v_lo := by
  unfold F_Stretch
  rw [lookup_putF, if_neg (show ¬ ("lo" : Str) = "hi" by decide +kernel), lookup_putF, if_pos rfl]
theorem F_Stretch_put_lo (v_piece_id v_lo v_hi x : V) : putF "lo" x (F_Stretch v_piece_id v_lo v_hi) = F_Stretch v_piece_id x v_hi := by
  rw [F_Stretch_eq, F_Stretch_eq]
  simp only [putF_hit, putF_miss (show ¬ ("piece_id" : Str) = "lo" by decide +kernel)]
theorem F_Stretch_hi (v_piece_id v_lo v_hi : V) : (F_Stretch v_piece_id v_lo v_hi).lookup ("hi" : Str) = some v_hi := by
  unfold F_Stretch
  rw [lookup_putF, if_pos rfl]
theorem F_Stretch_put_hi (v_piece_id v_lo v_hi x : V) : putF "hi" x (F_Stretch v_piece_id v_lo v_hi) = F_Stretch v_piece_id v_lo x := by
  rw [F_Stretch_eq, F_Stretch_eq]
  simp only [putF_hit, putF_miss (show ¬ ("piece_id" : Str) = "hi" by decide +kernel), putF_miss (show ¬ ("lo" : Str) = "hi" by decide +kernel)]
theorem F_Stretch_no (v_piece_id v_lo v_hi : V) {m : Str} (h_piece_id : ¬ m = "piece_id") (h_lo : ¬ m = "lo") (h_hi : ¬ m = "hi") : (F_Stretch v_piece_id v_lo v_hi).lookup m = none := by
  unfold F_Stretch
  rw [lookup_putF, if_neg h_hi, lookup_putF, if_neg h_lo, lookup_putF, if_neg h_piece_id]
  rfl
def F_Request (v_told v_whole : V) : List (Str × V) := putF "whole" v_whole (putF "told" v_told [])
theorem F_Request_eq (v_told v_whole : V) : F_Request v_told v_whole = [(("told" : Str), v_told), (("whole" : Str), v_whole)] := by
  unfold F_Request
  simp only [putF_nil, putF_miss (show ¬ ("told" : Str) = "whole" by decide +kernel)]
theorem F_Request_len (v_told v_whole : V) : (F_Request v_told v_whole).length < 1000 := by
  rw [F_Request_eq]
  show 2 < 1000
  decide
theorem F_Request_told (v_told v_whole : V) : (F_Request v_told v_whole).lookup ("told" : Str) = some v_told := by
  unfold F_Request
  rw [lookup_putF, if_neg (show ¬ ("told" : Str) = "whole" by decide +kernel), lookup_putF, if_pos rfl]
theorem F_Request_put_told (v_told v_whole x : V) : putF "told" x (F_Request v_told v_whole) = F_Request x v_whole := by
  rw [F_Request_eq, F_Request_eq]
  simp only [putF_hit]
theorem F_Request_whole (v_told v_whole : V) : (F_Request v_told v_whole).lookup ("whole" : Str) = some v_whole := by
  unfold F_Request
  rw [lookup_putF, if_pos rfl]
theorem F_Request_put_whole (v_told v_whole x : V) : putF "whole" x (F_Request v_told v_whole) = F_Request v_told x := by
  rw [F_Request_eq, F_Request_eq]
  simp only [putF_hit, putF_miss (show ¬ ("told" : Str) = "whole" by decide +kernel)]
theorem F_Request_no (v_told v_whole : V) {m : Str} (h_told : ¬ m = "told") (h_whole : ¬ m = "whole") : (F_Request v_told v_whole).lookup m = none := by
  unfold F_Request
  rw [lookup_putF, if_neg h_whole, lookup_putF, if_neg h_told]
  rfl
def F_Requests (v_by_number : V) : List (Str × V) := putF "by_number" v_by_number []
theorem F_Requests_eq (v_by_number : V) : F_Requests v_by_number = [(("by_number" : Str), v_by_number)] := by
  unfold F_Requests
  simp only [putF_nil]
theorem F_Requests_len (v_by_number : V) : (F_Requests v_by_number).length < 1000 := by
  rw [F_Requests_eq]
  show 1 < 1000
  decide
theorem F_Requests_by_number (v_by_number : V) : (F_Requests v_by_number).lookup ("by_number" : Str) = some v_by_number := by
  unfold F_Requests
  rw [lookup_putF, if_pos rfl]
theorem F_Requests_put_by_number (v_by_number x : V) : putF "by_number" x (F_Requests v_by_number) = F_Requests x := by
  rw [F_Requests_eq, F_Requests_eq]
  simp only [putF_hit]
theorem F_Requests_no (v_by_number : V) {m : Str} (h_by_number : ¬ m = "by_number") : (F_Requests v_by_number).lookup m = none := by
  unfold F_Requests
  rw [lookup_putF, if_neg h_by_number]
  rfl
/-! ### addresses, and what the top has written -/
structure Adr where
  cPiece : Addr
  cStretch : Addr
  cRequest : Addr
  cRequests : Addr
  f_Piece_init : Addr
  d_Piece_init : FuncData
  f_Piece_has_time_between : Addr
  d_Piece_has_time_between : FuncData
  f_Stretch_init : Addr
  d_Stretch_init : FuncData
  f_Stretch_how_long : Addr
  d_Stretch_how_long : FuncData
  f_Request_init : Addr
  d_Request_init : FuncData
  f_Request_tell : Addr
  d_Request_tell : FuncData
  f_Request_comes_to : Addr
  d_Request_comes_to : FuncData
  f_Request_lies_within_whole : Addr
  d_Request_lies_within_whole : FuncData
  f_Request_apart : Addr
  d_Request_apart : FuncData
  f_Request_path : Addr
  d_Request_path : FuncData
  f_Request_time : Addr
  d_Request_time : FuncData
  f_Request_time_of_kind : Addr
  d_Request_time_of_kind : FuncData
  f_Request_parts : Addr
  d_Request_parts : FuncData
  f_Request_last_one : Addr
  d_Request_last_one : FuncData
  f_Requests_init : Addr
  d_Requests_init : FuncData
  f_Requests_begin : Addr
  d_Requests_begin : FuncData
  f_Requests_tell : Addr
  d_Requests_tell : FuncData
  f_Requests_apart : Addr
  d_Requests_apart : FuncData
  f_Requests_path : Addr
  d_Requests_path : FuncData
  f_Requests_time : Addr
  d_Requests_time : FuncData
  f_Requests_time_of_kind : Addr
  d_Requests_time_of_kind : FuncData
  f_answer_call : Addr
  d_answer_call : FuncData
  f_answers : Addr
  d_answers : FuncData
  a_NUMBERS_OF_CALL : Addr
structure Txt (K : PySem.W.Frag) (mg : Str → Option Value) (A : Adr) : Prop where
  cl_Piece : Cls K A.cPiece
  mk_Piece : Mk K A.cPiece A.f_Piece_init
  mg_Piece : mg "Piece" = some (.ref A.cPiece)
  na_Piece_within : NoAttr K A.cPiece "within"
  na_Piece_since : NoAttr K A.cPiece "since"
  na_Piece_to : NoAttr K A.cPiece "to"
  na_Piece_kind : NoAttr K A.cPiece "kind"
  cl_Stretch : Cls K A.cStretch
  mk_Stretch : Mk K A.cStretch A.f_Stretch_init
  mg_Stretch : mg "Stretch" = some (.ref A.cStretch)
  na_Stretch_piece_id : NoAttr K A.cStretch "piece_id"
  na_Stretch_lo : NoAttr K A.cStretch "lo"
  na_Stretch_hi : NoAttr K A.cStretch "hi"
  cl_Request : Cls K A.cRequest
  mk_Request : Mk K A.cRequest A.f_Request_init
  mg_Request : mg "Request" = some (.ref A.cRequest)
  na_Request_told : NoAttr K A.cRequest "told"
  na_Request_whole : NoAttr K A.cRequest "whole"
  cl_Requests : Cls K A.cRequests
  mk_Requests : Mk K A.cRequests A.f_Requests_init
  mg_Requests : mg "Requests" = some (.ref A.cRequests)
  na_Requests_by_number : NoAttr K A.cRequests "by_number"
  fn_Piece_init : Fun K "__init__" "Piece.__init__" s_Piece_init A.f_Piece_init A.d_Piece_init
  bn_Piece_init : Binds K A.d_Piece_init ["self", "within", "since", "to", "kind"] []
  fn_Piece_has_time_between : Fun K "has_time_between" "Piece.has_time_between" s_Piece_has_time_between A.f_Piece_has_time_between A.d_Piece_has_time_between
  bn_Piece_has_time_between : Binds K A.d_Piece_has_time_between ["self", "lo", "hi"] []
  mt_Piece_has_time_between : Meth K A.cPiece "has_time_between" A.f_Piece_has_time_between
  fn_Stretch_init : Fun K "__init__" "Stretch.__init__" s_Stretch_init A.f_Stretch_init A.d_Stretch_init
  bn_Stretch_init : Binds K A.d_Stretch_init ["self", "piece_id", "lo", "hi"] []
  fn_Stretch_how_long : Fun K "how_long" "Stretch.how_long" s_Stretch_how_long A.f_Stretch_how_long A.d_Stretch_how_long
  bn_Stretch_how_long : Binds K A.d_Stretch_how_long ["self"] []
  mt_Stretch_how_long : Meth K A.cStretch "how_long" A.f_Stretch_how_long
  fn_Request_init : Fun K "__init__" "Request.__init__" s_Request_init A.f_Request_init A.d_Request_init
  bn_Request_init : Binds K A.d_Request_init ["self"] []
  fn_Request_tell : Fun K "tell" "Request.tell" s_Request_tell A.f_Request_tell A.d_Request_tell
  bn_Request_tell : Binds K A.d_Request_tell ["self", "piece_id", "piece"] []
  mt_Request_tell : Meth K A.cRequest "tell" A.f_Request_tell
  fn_Request_comes_to : Fun K "comes_to" "Request.comes_to" s_Request_comes_to A.f_Request_comes_to A.d_Request_comes_to
  bn_Request_comes_to : Binds K A.d_Request_comes_to ["self", "start_id", "piece_id"] []
  mt_Request_comes_to : Meth K A.cRequest "comes_to" A.f_Request_comes_to
  fn_Request_lies_within_whole : Fun K "lies_within_whole" "Request.lies_within_whole" s_Request_lies_within_whole A.f_Request_lies_within_whole A.d_Request_lies_within_whole
  bn_Request_lies_within_whole : Binds K A.d_Request_lies_within_whole ["self", "piece_id"] []
  mt_Request_lies_within_whole : Meth K A.cRequest "lies_within_whole" A.f_Request_lies_within_whole
  fn_Request_apart : Fun K "apart" "Request.apart" s_Request_apart A.f_Request_apart A.d_Request_apart
  bn_Request_apart : Binds K A.d_Request_apart ["self"] []
  mt_Request_apart : Meth K A.cRequest "apart" A.f_Request_apart
  fn_Request_path : Fun K "path" "Request.path" s_Request_path A.f_Request_path A.d_Request_path
  bn_Request_path : Binds K A.d_Request_path ["self"] []
  mt_Request_path : Meth K A.cRequest "path" A.f_Request_path
  fn_Request_time : Fun K "time" "Request.time" s_Request_time A.f_Request_time A.d_Request_time
  bn_Request_time : Binds K A.d_Request_time ["self", "piece_id"] []
  mt_Request_time : Meth K A.cRequest "time" A.f_Request_time
  fn_Request_time_of_kind : Fun K "time_of_kind" "Request.time_of_kind" s_Request_time_of_kind A.f_Request_time_of_kind A.d_Request_time_of_kind
  bn_Request_time_of_kind : Binds K A.d_Request_time_of_kind ["self", "kind"] []
  mt_Request_time_of_kind : Meth K A.cRequest "time_of_kind" A.f_Request_time_of_kind
  fn_Request_parts : Fun K "parts" "Request.parts" s_Request_parts A.f_Request_parts A.d_Request_parts
  bn_Request_parts : Binds K A.d_Request_parts ["self"] []
  mt_Request_parts : Meth K A.cRequest "parts" A.f_Request_parts
  fn_Request_last_one : Fun K "last_one" "Request.last_one" s_Request_last_one A.f_Request_last_one A.d_Request_last_one
  bn_Request_last_one : Binds K A.d_Request_last_one ["self", "stretch"] []
  mt_Request_last_one : Meth K A.cRequest "last_one" A.f_Request_last_one
  fn_Requests_init : Fun K "__init__" "Requests.__init__" s_Requests_init A.f_Requests_init A.d_Requests_init
  bn_Requests_init : Binds K A.d_Requests_init ["self"] []
  fn_Requests_begin : Fun K "begin" "Requests.begin" s_Requests_begin A.f_Requests_begin A.d_Requests_begin
  bn_Requests_begin : Binds K A.d_Requests_begin ["self"] []
  mt_Requests_begin : Meth K A.cRequests "begin" A.f_Requests_begin
  fn_Requests_tell : Fun K "tell" "Requests.tell" s_Requests_tell A.f_Requests_tell A.d_Requests_tell
  bn_Requests_tell : Binds K A.d_Requests_tell ["self", "request", "piece_id", "within", "since", "to", "kind"] []
  mt_Requests_tell : Meth K A.cRequests "tell" A.f_Requests_tell
  fn_Requests_apart : Fun K "apart" "Requests.apart" s_Requests_apart A.f_Requests_apart A.d_Requests_apart
  bn_Requests_apart : Binds K A.d_Requests_apart ["self", "request"] []
  mt_Requests_apart : Meth K A.cRequests "apart" A.f_Requests_apart
  fn_Requests_path : Fun K "path" "Requests.path" s_Requests_path A.f_Requests_path A.d_Requests_path
  bn_Requests_path : Binds K A.d_Requests_path ["self", "request"] []
  mt_Requests_path : Meth K A.cRequests "path" A.f_Requests_path
  fn_Requests_time : Fun K "time" "Requests.time" s_Requests_time A.f_Requests_time A.d_Requests_time
  bn_Requests_time : Binds K A.d_Requests_time ["self", "request", "piece_id"] []
  mt_Requests_time : Meth K A.cRequests "time" A.f_Requests_time
  fn_Requests_time_of_kind : Fun K "time_of_kind" "Requests.time_of_kind" s_Requests_time_of_kind A.f_Requests_time_of_kind A.d_Requests_time_of_kind
  bn_Requests_time_of_kind : Binds K A.d_Requests_time_of_kind ["self", "kind"] []
  mt_Requests_time_of_kind : Meth K A.cRequests "time_of_kind" A.f_Requests_time_of_kind
  fn_answer_call : Fun K "answer_call" "answer_call" s_answer_call A.f_answer_call A.d_answer_call
  bn_answer_call : Binds K A.d_answer_call ["requests", "call", "numbers"] []
  mg_answer_call : mg "answer_call" = some (.ref A.f_answer_call)
  fn_answers : Fun K "answers" "answers" s_answers A.f_answers A.d_answers
  bn_answers : Binds K A.d_answers ["calls"] []
  mg_answers : mg "answers" = some (.ref A.f_answers)
  k_MOST_PIECES : ∃ u, mg "MOST_PIECES" = some u ∧ RelV (.int (64)) u
  k_TOLD_BEFORE : ∃ u, mg "TOLD_BEFORE" = some u ∧ RelV (.int (-17)) u
  k_GOES_ROUND : ∃ u, mg "GOES_ROUND" = some u ∧ RelV (.int (-41)) u
  k_TOO_MANY : ∃ u, mg "TOO_MANY" = some u ∧ RelV (.int (-28)) u
  k_NOT_TOLD : ∃ u, mg "NOT_TOLD" = some u ∧ RelV (.int (-2)) u
  k_LAST_REQUEST : ∃ u, mg "LAST_REQUEST" = some u ∧ RelV (.int (15)) u
  k_LAST_KIND : ∃ u, mg "LAST_KIND" = some u ∧ RelV (.int (63)) u
  k_WRONG_NUMBER : ∃ u, mg "WRONG_NUMBER" = some u ∧ RelV (.int (-22)) u
  k_BEGIN : ∃ u, mg "BEGIN" = some u ∧ RelV (.int (0)) u
  k_TELL : ∃ u, mg "TELL" = some u ∧ RelV (.int (1)) u
  k_APART : ∃ u, mg "APART" = some u ∧ RelV (.int (2)) u
  k_PATH : ∃ u, mg "PATH" = some u ∧ RelV (.int (3)) u
  k_TIME : ∃ u, mg "TIME" = some u ∧ RelV (.int (4)) u
  k_NUMBERS_OF_CALL : mg "NUMBERS_OF_CALL" = some (.ref A.a_NUMBERS_OF_CALL)
  t_NUMBERS_OF_CALL : ∀ H, SqT K H A.a_NUMBERS_OF_CALL [.int (0), .int (6), .int (1), .int (1), .int (2), .int (1)]
  b_len : mg "len" = none
  b_list : mg "list" = none
  b_max : mg "max" = none
  b_min : mg "min" = none
  b_range : mg "range" = none
  b_reversed : mg "reversed" = none
  b_sum : mg "sum" = none
/-! ### Txt out of what k_is finds -/
theorem txt_mk {K : PySem.W.Frag} {h : Heap} {mg : Str → Option Value} (X : K.In h) (G : h.Ns mainGlobals mg) {cPiece cStretch cRequest cRequests f0 f1 f2 f3 f4 f5 f6 f7 f8 f9 f10 f11 f12 f13 f14 f15 f16 f17 f18 f19 f20 f21 f22 a_NUMBERS_OF_CALL : Addr}
    {od0 an0 od1 an1 od2 an2 od3 an3 od4 an4 od5 an5 od6 an6 od7 an7 od8 an8 od9 an9 od10 an10 od11 an11 od12 an12 od13 an13 od14 an14 od15 an15 od16 an16 od17 an17 od18 an18 od19 an19 od20 an20 od21 an21 od22 an22 od_NUMBERS_OF_CALL : Option Addr} {sl0 sl1 sl2 sl3 sl4 sl5 sl6 sl7 sl8 sl9 sl10 sl11 sl12 sl13 sl14 sl15 sl16 sl17 sl18 sl19 sl20 sl21 sl22 sl_NUMBERS_OF_CALL : Array (Option Value)} {oc0 kV0 dc0 pm0 cd0 ct0 oc1 kV1 dc1 pm1 cd1 ct1 oc2 kV2 dc2 pm2 cd2 ct2 oc3 kV3 dc3 pm3 cd3 ct3 oc4 kV4 dc4 pm4 cd4 ct4 oc5 kV5 dc5 pm5 cd5 ct5 oc6 kV6 dc6 pm6 cd6 ct6 oc7 kV7 dc7 pm7 cd7 ct7 oc8 kV8 dc8 pm8 cd8 ct8 oc9 kV9 dc9 pm9 cd9 ct9 oc10 kV10 dc10 pm10 cd10 ct10 oc11 kV11 dc11 pm11 cd11 ct11 oc12 kV12 dc12 pm12 cd12 ct12 oc13 kV13 dc13 pm13 cd13 ct13 oc14 kV14 dc14 pm14 cd14 ct14 oc15 kV15 dc15 pm15 cd15 ct15 oc16 kV16 dc16 pm16 cd16 ct16 oc17 kV17 dc17 pm17 cd17 ct17 oc18 kV18 dc18 pm18 cd18 ct18 oc19 kV19 dc19 pm19 cd19 ct19 oc20 kV20 dc20 pm20 cd20 ct20 oc21 kV21 dc21 pm21 cd21 ct21 oc22 kV22 dc22 pm22 cd22 ct22 : Value}
    {t_MOST_PIECES t_TOLD_BEFORE t_GOES_ROUND t_TOO_MANY t_NOT_TOLD t_LAST_REQUEST t_LAST_KIND t_WRONG_NUMBER t_BEGIN t_TELL t_APART t_PATH t_TIME t_NUMBERS_OF_CALL_0 t_NUMBERS_OF_CALL_1 t_NUMBERS_OF_CALL_2 t_NUMBERS_OF_CALL_3 t_NUMBERS_OF_CALL_4 t_NUMBERS_OF_CALL_5 : Tok} {n_NUMBERS_OF_CALL : Nat}
    (aC_Piece : PySem.W.nsIn K mainGlobals "Piece" = some (some (.ref cPiece)))
    (aC_Stretch : PySem.W.nsIn K mainGlobals "Stretch" = some (some (.ref cStretch)))
    (aC_Request : PySem.W.nsIn K mainGlobals "Request" = some (some (.ref cRequest)))
    (aC_Requests : PySem.W.nsIn K mainGlobals "Requests" = some (some (.ref cRequests)))
    (a0 : PySem.W.findIn K (.ref cPiece) "__init__" = some (some (.ref f0)))
    (i0 : PySem.W.isFn K (.ref f0) = true)
    (l0 : K.lookup f0 = some ⟨oc0, od0, .func (PySem.W.fnOf "__init__" "Piece.__init__" (defArgs s_Piece_init) (defBody s_Piece_init) (defScope s_Piece_init) .none kV0 dc0 pm0 an0 cd0 ct0), sl0⟩)
    (c0 : PySem.W.codeIn K cd0 "Piece.__init__" = true)
    (k0 : PySem.W.keepIn K (.ref f0) = true)
    (a1 : PySem.W.findIn K (.ref cPiece) "has_time_between" = some (some (.ref f1)))
    (i1 : PySem.W.isFn K (.ref f1) = true)
    (l1 : K.lookup f1 = some ⟨oc1, od1, .func (PySem.W.fnOf "has_time_between" "Piece.has_time_between" (defArgs s_Piece_has_time_between) (defBody s_Piece_has_time_between) (defScope s_Piece_has_time_between) .none kV1 dc1 pm1 an1 cd1 ct1), sl1⟩)
    (c1 : PySem.W.codeIn K cd1 "Piece.has_time_between" = true)
    (k1 : PySem.W.keepIn K (.ref f1) = true)
    (a2 : PySem.W.findIn K (.ref cStretch) "__init__" = some (some (.ref f2)))
    (i2 : PySem.W.isFn K (.ref f2) = true)
    (l2 : K.lookup f2 = some ⟨oc2, od2, .func (PySem.W.fnOf "__init__" "Stretch.__init__" (defArgs s_Stretch_init) (defBody s_Stretch_init) (defScope s_Stretch_init) .none kV2 dc2 pm2 an2 cd2 ct2), sl2⟩)
    (c2 : PySem.W.codeIn K cd2 "Stretch.__init__" = true)
    (k2 : PySem.W.keepIn K (.ref f2) = true)
    (a3 : PySem.W.findIn K (.ref cStretch) "how_long" = some (some (.ref f3)))
    (i3 : PySem.W.isFn K (.ref f3) = true)
    (l3 : K.lookup f3 = some ⟨oc3, od3, .func (PySem.W.fnOf "how_long" "Stretch.how_long" (defArgs s_Stretch_how_long) (defBody s_Stretch_how_long) (defScope s_Stretch_how_long) .none kV3 dc3 pm3 an3 cd3 ct3), sl3⟩)
    (c3 : PySem.W.codeIn K cd3 "Stretch.how_long" = true)
    (k3 : PySem.W.keepIn K (.ref f3) = true)
    (a4 : PySem.W.findIn K (.ref cRequest) "__init__" = some (some (.ref f4)))
    (i4 : PySem.W.isFn K (.ref f4) = true)
    (l4 : K.lookup f4 = some ⟨oc4, od4, .func (PySem.W.fnOf "__init__" "Request.__init__" (defArgs s_Request_init) (defBody s_Request_init) (defScope s_Request_init) .none kV4 dc4 pm4 an4 cd4 ct4), sl4⟩)
    (c4 : PySem.W.codeIn K cd4 "Request.__init__" = true)
    (k4 : PySem.W.keepIn K (.ref f4) = true)
    (a5 : PySem.W.findIn K (.ref cRequest) "tell" = some (some (.ref f5)))
    (i5 : PySem.W.isFn K (.ref f5) = true)
    (l5 : K.lookup f5 = some ⟨oc5, od5, .func (PySem.W.fnOf "tell" "Request.tell" (defArgs s_Request_tell) (defBody s_Request_tell) (defScope s_Request_tell) .none kV5 dc5 pm5 an5 cd5 ct5), sl5⟩)
    (c5 : PySem.W.codeIn K cd5 "Request.tell" = true)
    (k5 : PySem.W.keepIn K (.ref f5) = true)
    (a6 : PySem.W.findIn K (.ref cRequest) "comes_to" = some (some (.ref f6)))
    (i6 : PySem.W.isFn K (.ref f6) = true)
    (l6 : K.lookup f6 = some ⟨oc6, od6, .func (PySem.W.fnOf "comes_to" "Request.comes_to" (defArgs s_Request_comes_to) (defBody s_Request_comes_to) (defScope s_Request_comes_to) .none kV6 dc6 pm6 an6 cd6 ct6), sl6⟩)
    (c6 : PySem.W.codeIn K cd6 "Request.comes_to" = true)
    (k6 : PySem.W.keepIn K (.ref f6) = true)
    (a7 : PySem.W.findIn K (.ref cRequest) "lies_within_whole" = some (some (.ref f7)))
    (i7 : PySem.W.isFn K (.ref f7) = true)
    (l7 : K.lookup f7 = some ⟨oc7, od7, .func (PySem.W.fnOf "lies_within_whole" "Request.lies_within_whole" (defArgs s_Request_lies_within_whole) (defBody s_Request_lies_within_whole) (defScope s_Request_lies_within_whole) .none kV7 dc7 pm7 an7 cd7 ct7), sl7⟩)
    (c7 : PySem.W.codeIn K cd7 "Request.lies_within_whole" = true)
    (k7 : PySem.W.keepIn K (.ref f7) = true)
    (a8 : PySem.W.findIn K (.ref cRequest) "apart" = some (some (.ref f8)))
    (i8 : PySem.W.isFn K (.ref f8) = true)
    (l8 : K.lookup f8 = some ⟨oc8, od8, .func (PySem.W.fnOf "apart" "Request.apart" (defArgs s_Request_apart) (defBody s_Request_apart) (defScope s_Request_apart) .none kV8 dc8 pm8 an8 cd8 ct8), sl8⟩)
    (c8 : PySem.W.codeIn K cd8 "Request.apart" = true)
    (k8 : PySem.W.keepIn K (.ref f8) = true)
    (a9 : PySem.W.findIn K (.ref cRequest) "path" = some (some (.ref f9)))
    (i9 : PySem.W.isFn K (.ref f9) = true)
    (l9 : K.lookup f9 = some ⟨oc9, od9, .func (PySem.W.fnOf "path" "Request.path" (defArgs s_Request_path) (defBody s_Request_path) (defScope s_Request_path) .none kV9 dc9 pm9 an9 cd9 ct9), sl9⟩)
    (c9 : PySem.W.codeIn K cd9 "Request.path" = true)
    (k9 : PySem.W.keepIn K (.ref f9) = true)
    (a10 : PySem.W.findIn K (.ref cRequest) "time" = some (some (.ref f10)))
    (i10 : PySem.W.isFn K (.ref f10) = true)
    (l10 : K.lookup f10 = some ⟨oc10, od10, .func (PySem.W.fnOf "time" "Request.time" (defArgs s_Request_time) (defBody s_Request_time) (defScope s_Request_time) .none kV10 dc10 pm10 an10 cd10 ct10), sl10⟩)
    (c10 : PySem.W.codeIn K cd10 "Request.time" = true)
    (k10 : PySem.W.keepIn K (.ref f10) = true)
    (a11 : PySem.W.findIn K (.ref cRequest) "time_of_kind" = some (some (.ref f11)))
    (i11 : PySem.W.isFn K (.ref f11) = true)
    (l11 : K.lookup f11 = some ⟨oc11, od11, .func (PySem.W.fnOf "time_of_kind" "Request.time_of_kind" (defArgs s_Request_time_of_kind) (defBody s_Request_time_of_kind) (defScope s_Request_time_of_kind) .none kV11 dc11 pm11 an11 cd11 ct11), sl11⟩)
    (c11 : PySem.W.codeIn K cd11 "Request.time_of_kind" = true)
    (k11 : PySem.W.keepIn K (.ref f11) = true)
    (a12 : PySem.W.findIn K (.ref cRequest) "parts" = some (some (.ref f12)))
    (i12 : PySem.W.isFn K (.ref f12) = true)
    (l12 : K.lookup f12 = some ⟨oc12, od12, .func (PySem.W.fnOf "parts" "Request.parts" (defArgs s_Request_parts) (defBody s_Request_parts) (defScope s_Request_parts) .none kV12 dc12 pm12 an12 cd12 ct12), sl12⟩)
    (c12 : PySem.W.codeIn K cd12 "Request.parts" = true)
    (k12 : PySem.W.keepIn K (.ref f12) = true)
    (a13 : PySem.W.findIn K (.ref cRequest) "last_one" = some (some (.ref f13)))
    (i13 : PySem.W.isFn K (.ref f13) = true)
    (l13 : K.lookup f13 = some ⟨oc13, od13, .func (PySem.W.fnOf "last_one" "Request.last_one" (defArgs s_Request_last_one) (defBody s_Request_last_one) (defScope s_Request_last_one) .none kV13 dc13 pm13 an13 cd13 ct13), sl13⟩)
    (c13 : PySem.W.codeIn K cd13 "Request.last_one" = true)
    (k13 : PySem.W.keepIn K (.ref f13) = true)
    (a14 : PySem.W.findIn K (.ref cRequests) "__init__" = some (some (.ref f14)))
    (i14 : PySem.W.isFn K (.ref f14) = true)
    (l14 : K.lookup f14 = some ⟨oc14, od14, .func (PySem.W.fnOf "__init__" "Requests.__init__" (defArgs s_Requests_init) (defBody s_Requests_init) (defScope s_Requests_init) .none kV14 dc14 pm14 an14 cd14 ct14), sl14⟩)
    (c14 : PySem.W.codeIn K cd14 "Requests.__init__" = true)
    (k14 : PySem.W.keepIn K (.ref f14) = true)
    (a15 : PySem.W.findIn K (.ref cRequests) "begin" = some (some (.ref f15)))
    (i15 : PySem.W.isFn K (.ref f15) = true)
    (l15 : K.lookup f15 = some ⟨oc15, od15, .func (PySem.W.fnOf "begin" "Requests.begin" (defArgs s_Requests_begin) (defBody s_Requests_begin) (defScope s_Requests_begin) .none kV15 dc15 pm15 an15 cd15 ct15), sl15⟩)
    (c15 : PySem.W.codeIn K cd15 "Requests.begin" = true)
    (k15 : PySem.W.keepIn K (.ref f15) = true)
    (a16 : PySem.W.findIn K (.ref cRequests) "tell" = some (some (.ref f16)))
    (i16 : PySem.W.isFn K (.ref f16) = true)
    (l16 : K.lookup f16 = some ⟨oc16, od16, .func (PySem.W.fnOf "tell" "Requests.tell" (defArgs s_Requests_tell) (defBody s_Requests_tell) (defScope s_Requests_tell) .none kV16 dc16 pm16 an16 cd16 ct16), sl16⟩)
    (c16 : PySem.W.codeIn K cd16 "Requests.tell" = true)
    (k16 : PySem.W.keepIn K (.ref f16) = true)
    (a17 : PySem.W.findIn K (.ref cRequests) "apart" = some (some (.ref f17)))
    (i17 : PySem.W.isFn K (.ref f17) = true)
    (l17 : K.lookup f17 = some ⟨oc17, od17, .func (PySem.W.fnOf "apart" "Requests.apart" (defArgs s_Requests_apart) (defBody s_Requests_apart) (defScope s_Requests_apart) .none kV17 dc17 pm17 an17 cd17 ct17), sl17⟩)
    (c17 : PySem.W.codeIn K cd17 "Requests.apart" = true)
    (k17 : PySem.W.keepIn K (.ref f17) = true)
    (a18 : PySem.W.findIn K (.ref cRequests) "path" = some (some (.ref f18)))
    (i18 : PySem.W.isFn K (.ref f18) = true)
    (l18 : K.lookup f18 = some ⟨oc18, od18, .func (PySem.W.fnOf "path" "Requests.path" (defArgs s_Requests_path) (defBody s_Requests_path) (defScope s_Requests_path) .none kV18 dc18 pm18 an18 cd18 ct18), sl18⟩)
    (c18 : PySem.W.codeIn K cd18 "Requests.path" = true)
    (k18 : PySem.W.keepIn K (.ref f18) = true)
    (a19 : PySem.W.findIn K (.ref cRequests) "time" = some (some (.ref f19)))
    (i19 : PySem.W.isFn K (.ref f19) = true)
    (l19 : K.lookup f19 = some ⟨oc19, od19, .func (PySem.W.fnOf "time" "Requests.time" (defArgs s_Requests_time) (defBody s_Requests_time) (defScope s_Requests_time) .none kV19 dc19 pm19 an19 cd19 ct19), sl19⟩)
    (c19 : PySem.W.codeIn K cd19 "Requests.time" = true)
    (k19 : PySem.W.keepIn K (.ref f19) = true)
    (a20 : PySem.W.findIn K (.ref cRequests) "time_of_kind" = some (some (.ref f20)))
    (i20 : PySem.W.isFn K (.ref f20) = true)
    (l20 : K.lookup f20 = some ⟨oc20, od20, .func (PySem.W.fnOf "time_of_kind" "Requests.time_of_kind" (defArgs s_Requests_time_of_kind) (defBody s_Requests_time_of_kind) (defScope s_Requests_time_of_kind) .none kV20 dc20 pm20 an20 cd20 ct20), sl20⟩)
    (c20 : PySem.W.codeIn K cd20 "Requests.time_of_kind" = true)
    (k20 : PySem.W.keepIn K (.ref f20) = true)
    (a21 : PySem.W.nsIn K mainGlobals "answer_call" = some (some (.ref f21)))
    (l21 : K.lookup f21 = some ⟨oc21, od21, .func (PySem.W.fnOf "answer_call" "answer_call" (defArgs s_answer_call) (defBody s_answer_call) (defScope s_answer_call) .none kV21 dc21 pm21 an21 cd21 ct21), sl21⟩)
    (c21 : PySem.W.codeIn K cd21 "answer_call" = true)
    (k21 : PySem.W.keepIn K (.ref f21) = true)
    (a22 : PySem.W.nsIn K mainGlobals "answers" = some (some (.ref f22)))
    (l22 : K.lookup f22 = some ⟨oc22, od22, .func (PySem.W.fnOf "answers" "answers" (defArgs s_answers) (defBody s_answers) (defScope s_answers) .none kV22 dc22 pm22 an22 cd22 ct22), sl22⟩)
    (c22 : PySem.W.codeIn K cd22 "answers" = true)
    (k22 : PySem.W.keepIn K (.ref f22) = true)
    (pg_Piece : PySem.W.plainGet K cPiece Str.empty = true)
    (hd_Piece : PySem.W.hasDictIn K cPiece = true)
    (po_Piece : PySem.W.plainOver K cPiece = true)
    (sa_Piece : PySem.W.findIn K (.ref cPiece) "__setattr__" = some (some (.builtin "object.__setattr__")))
    (mk_Piece : PySem.W.makesIn K cPiece = true)
    (kc_Piece : PySem.W.keepIn K (.ref cPiece) = true)
    (n_Piece_within : PySem.W.findIn K (.ref cPiece) "within" = some none)
    (n_Piece_since : PySem.W.findIn K (.ref cPiece) "since" = some none)
    (n_Piece_to : PySem.W.findIn K (.ref cPiece) "to" = some none)
    (n_Piece_kind : PySem.W.findIn K (.ref cPiece) "kind" = some none)
    (pg_Stretch : PySem.W.plainGet K cStretch Str.empty = true)
    (hd_Stretch : PySem.W.hasDictIn K cStretch = true)
    (po_Stretch : PySem.W.plainOver K cStretch = true)
    (sa_Stretch : PySem.W.findIn K (.ref cStretch) "__setattr__" = some (some (.builtin "object.__setattr__")))
    (mk_Stretch : PySem.W.makesIn K cStretch = true)
    (kc_Stretch : PySem.W.keepIn K (.ref cStretch) = true)
    (n_Stretch_piece_id : PySem.W.findIn K (.ref cStretch) "piece_id" = some none)
    (n_Stretch_lo : PySem.W.findIn K (.ref cStretch) "lo" = some none)
    (n_Stretch_hi : PySem.W.findIn K (.ref cStretch) "hi" = some none)
    (pg_Request : PySem.W.plainGet K cRequest Str.empty = true)
    (hd_Request : PySem.W.hasDictIn K cRequest = true)
    (po_Request : PySem.W.plainOver K cRequest = true)
    (sa_Request : PySem.W.findIn K (.ref cRequest) "__setattr__" = some (some (.builtin "object.__setattr__")))
    (mk_Request : PySem.W.makesIn K cRequest = true)
    (kc_Request : PySem.W.keepIn K (.ref cRequest) = true)
    (n_Request_told : PySem.W.findIn K (.ref cRequest) "told" = some none)
    (n_Request_whole : PySem.W.findIn K (.ref cRequest) "whole" = some none)
    (pg_Requests : PySem.W.plainGet K cRequests Str.empty = true)
    (hd_Requests : PySem.W.hasDictIn K cRequests = true)
    (po_Requests : PySem.W.plainOver K cRequests = true)
    (sa_Requests : PySem.W.findIn K (.ref cRequests) "__setattr__" = some (some (.builtin "object.__setattr__")))
    (mk_Requests : PySem.W.makesIn K cRequests = true)
    (kc_Requests : PySem.W.keepIn K (.ref cRequests) = true)
    (n_Requests_by_number : PySem.W.findIn K (.ref cRequests) "by_number" = some none)
    (v_MOST_PIECES : PySem.W.nsIn K mainGlobals "MOST_PIECES" = some (some (.int (64) t_MOST_PIECES)))
    (v_TOLD_BEFORE : PySem.W.nsIn K mainGlobals "TOLD_BEFORE" = some (some (.int (-17) t_TOLD_BEFORE)))
    (v_GOES_ROUND : PySem.W.nsIn K mainGlobals "GOES_ROUND" = some (some (.int (-41) t_GOES_ROUND)))
    (v_TOO_MANY : PySem.W.nsIn K mainGlobals "TOO_MANY" = some (some (.int (-28) t_TOO_MANY)))
    (v_NOT_TOLD : PySem.W.nsIn K mainGlobals "NOT_TOLD" = some (some (.int (-2) t_NOT_TOLD)))
    (v_LAST_REQUEST : PySem.W.nsIn K mainGlobals "LAST_REQUEST" = some (some (.int (15) t_LAST_REQUEST)))
    (v_LAST_KIND : PySem.W.nsIn K mainGlobals "LAST_KIND" = some (some (.int (63) t_LAST_KIND)))
    (v_WRONG_NUMBER : PySem.W.nsIn K mainGlobals "WRONG_NUMBER" = some (some (.int (-22) t_WRONG_NUMBER)))
    (v_BEGIN : PySem.W.nsIn K mainGlobals "BEGIN" = some (some (.int (0) t_BEGIN)))
    (v_TELL : PySem.W.nsIn K mainGlobals "TELL" = some (some (.int (1) t_TELL)))
    (v_APART : PySem.W.nsIn K mainGlobals "APART" = some (some (.int (2) t_APART)))
    (v_PATH : PySem.W.nsIn K mainGlobals "PATH" = some (some (.int (3) t_PATH)))
    (v_TIME : PySem.W.nsIn K mainGlobals "TIME" = some (some (.int (4) t_TIME)))
    (v_NUMBERS_OF_CALL : PySem.W.nsIn K mainGlobals "NUMBERS_OF_CALL" = some (some (.ref a_NUMBERS_OF_CALL)))
    (w_NUMBERS_OF_CALL : K.lookup a_NUMBERS_OF_CALL = some ⟨.type "tuple", od_NUMBERS_OF_CALL, .seq #[.int (0) t_NUMBERS_OF_CALL_0, .int (6) t_NUMBERS_OF_CALL_1, .int (1) t_NUMBERS_OF_CALL_2, .int (1) t_NUMBERS_OF_CALL_3, .int (2) t_NUMBERS_OF_CALL_4, .int (1) t_NUMBERS_OF_CALL_5] n_NUMBERS_OF_CALL, sl_NUMBERS_OF_CALL⟩)
    (z_len : PySem.W.nsIn K mainGlobals "len" = some none)
    (z_list : PySem.W.nsIn K mainGlobals "list" = some none)
    (z_max : PySem.W.nsIn K mainGlobals "max" = some none)
    (z_min : PySem.W.nsIn K mainGlobals "min" = some none)
    (z_range : PySem.W.nsIn K mainGlobals "range" = some none)
    (z_reversed : PySem.W.nsIn K mainGlobals "reversed" = some none)
    (z_sum : PySem.W.nsIn K mainGlobals "sum" = some none)
    : Txt K mg ⟨cPiece, cStretch, cRequest, cRequests, f0, (PySem.W.fnOf "__init__" "Piece.__init__" (defArgs s_Piece_init) (defBody s_Piece_init) (defScope s_Piece_init) .none kV0 dc0 pm0 an0 cd0 ct0), f1, (PySem.W.fnOf "has_time_between" "Piece.has_time_between" (defArgs s_Piece_has_time_between) (defBody s_Piece_has_time_between) (defScope s_Piece_has_time_between) .none kV1 dc1 pm1 an1 cd1 ct1), f2, (PySem.W.fnOf "__init__" "Stretch.__init__" (defArgs s_Stretch_init) (defBody s_Stretch_init) (defScope s_Stretch_init) .none kV2 dc2 pm2 an2 cd2 ct2), f3, (PySem.W.fnOf "how_long" "Stretch.how_long" (defArgs s_Stretch_how_long) (defBody s_Stretch_how_long) (defScope s_Stretch_how_long) .none kV3 dc3 pm3 an3 cd3 ct3), f4, (PySem.W.fnOf "__init__" "Request.__init__" (defArgs s_Request_init) (defBody s_Request_init) (defScope s_Request_init) .none kV4 dc4 pm4 an4 cd4 ct4), f5, (PySem.W.fnOf "tell" "Request.tell" (defArgs s_Request_tell) (defBody s_Request_tell) (defScope s_Request_tell) .none kV5 dc5 pm5 an5 cd5 ct5), f6, (PySem.W.fnOf "comes_to" "Request.comes_to" (defArgs s_Request_comes_to) (defBody s_Request_comes_to) (defScope s_Request_comes_to) .none kV6 dc6 pm6 an6 cd6 ct6), f7, (PySem.W.fnOf "lies_within_whole" "Request.lies_within_whole" (defArgs s_Request_lies_within_whole) (defBody s_Request_lies_within_whole) (defScope s_Request_lies_within_whole) .none kV7 dc7 pm7 an7 cd7 ct7), f8, (PySem.W.fnOf "apart" "Request.apart" (defArgs s_Request_apart) (defBody s_Request_apart) (defScope s_Request_apart) .none kV8 dc8 pm8 an8 cd8 ct8), f9, (PySem.W.fnOf "path" "Request.path" (defArgs s_Request_path) (defBody s_Request_path) (defScope s_Request_path) .none kV9 dc9 pm9 an9 cd9 ct9), f10, (PySem.W.fnOf "time" "Request.time" (defArgs s_Request_time) (defBody s_Request_time) (defScope s_Request_time) .none kV10 dc10 pm10 an10 cd10 ct10), f11, (PySem.W.fnOf "time_of_kind" "Request.time_of_kind" (defArgs s_Request_time_of_kind) (defBody s_Request_time_of_kind) (defScope s_Request_time_of_kind) .none kV11 dc11 pm11 an11 cd11 ct11), f12, (PySem.W.fnOf "parts" "Request.parts" (defArgs s_Request_parts) (defBody s_Request_parts) (defScope s_Request_parts) .none kV12 dc12 pm12 an12 cd12 ct12), f13, (PySem.W.fnOf "last_one" "Request.last_one" (defArgs s_Request_last_one) (defBody s_Request_last_one) (defScope s_Request_last_one) .none kV13 dc13 pm13 an13 cd13 ct13), f14, (PySem.W.fnOf "__init__" "Requests.__init__" (defArgs s_Requests_init) (defBody s_Requests_init) (defScope s_Requests_init) .none kV14 dc14 pm14 an14 cd14 ct14), f15, (PySem.W.fnOf "begin" "Requests.begin" (defArgs s_Requests_begin) (defBody s_Requests_begin) (defScope s_Requests_begin) .none kV15 dc15 pm15 an15 cd15 ct15), f16, (PySem.W.fnOf "tell" "Requests.tell" (defArgs s_Requests_tell) (defBody s_Requests_tell) (defScope s_Requests_tell) .none kV16 dc16 pm16 an16 cd16 ct16), f17, (PySem.W.fnOf "apart" "Requests.apart" (defArgs s_Requests_apart) (defBody s_Requests_apart) (defScope s_Requests_apart) .none kV17 dc17 pm17 an17 cd17 ct17), f18, (PySem.W.fnOf "path" "Requests.path" (defArgs s_Requests_path) (defBody s_Requests_path) (defScope s_Requests_path) .none kV18 dc18 pm18 an18 cd18 ct18), f19, (PySem.W.fnOf "time" "Requests.time" (defArgs s_Requests_time) (defBody s_Requests_time) (defScope s_Requests_time) .none kV19 dc19 pm19 an19 cd19 ct19), f20, (PySem.W.fnOf "time_of_kind" "Requests.time_of_kind" (defArgs s_Requests_time_of_kind) (defBody s_Requests_time_of_kind) (defScope s_Requests_time_of_kind) .none kV20 dc20 pm20 an20 cd20 ct20), f21, (PySem.W.fnOf "answer_call" "answer_call" (defArgs s_answer_call) (defBody s_answer_call) (defScope s_answer_call) .none kV21 dc21 pm21 an21 cd21 ct21), f22, (PySem.W.fnOf "answers" "answers" (defArgs s_answers) (defBody s_answers) (defScope s_answers) .none kV22 dc22 pm22 an22 cd22 ct22), a_NUMBERS_OF_CALL⟩ := by
  have F0 := fun_mk (st := s_Piece_init) l0 c0 k0
  have F1 := fun_mk (st := s_Piece_has_time_between) l1 c1 k1
  have F2 := fun_mk (st := s_Stretch_init) l2 c2 k2
  have F3 := fun_mk (st := s_Stretch_how_long) l3 c3 k3
  have F4 := fun_mk (st := s_Request_init) l4 c4 k4
  have F5 := fun_mk (st := s_Request_tell) l5 c5 k5
  have F6 := fun_mk (st := s_Request_comes_to) l6 c6 k6
  have F7 := fun_mk (st := s_Request_lies_within_whole) l7 c7 k7
  have F8 := fun_mk (st := s_Request_apart) l8 c8 k8
  have F9 := fun_mk (st := s_Request_path) l9 c9 k9
  have F10 := fun_mk (st := s_Request_time) l10 c10 k10
  have F11 := fun_mk (st := s_Request_time_of_kind) l11 c11 k11
  have F12 := fun_mk (st := s_Request_parts) l12 c12 k12
  have F13 := fun_mk (st := s_Request_last_one) l13 c13 k13
  have F14 := fun_mk (st := s_Requests_init) l14 c14 k14
  have F15 := fun_mk (st := s_Requests_begin) l15 c15 k15
  have F16 := fun_mk (st := s_Requests_tell) l16 c16 k16
  have F17 := fun_mk (st := s_Requests_apart) l17 c17 k17
  have F18 := fun_mk (st := s_Requests_path) l18 c18 k18
  have F19 := fun_mk (st := s_Requests_time) l19 c19 k19
  have F20 := fun_mk (st := s_Requests_time_of_kind) l20 c20 k20
  have F21 := fun_mk (st := s_answer_call) l21 c21 k21
  have F22 := fun_mk (st := s_answers) l22 c22 k22
  exact ⟨⟨pg_Piece, hd_Piece, po_Piece, sa_Piece⟩,
    ⟨mk_Piece, a0, i0, kc_Piece⟩,
    PySem.W.mg_of X G aC_Piece,
    n_Piece_within,
    n_Piece_since,
    n_Piece_to,
    n_Piece_kind,
    ⟨pg_Stretch, hd_Stretch, po_Stretch, sa_Stretch⟩,
    ⟨mk_Stretch, a2, i2, kc_Stretch⟩,
    PySem.W.mg_of X G aC_Stretch,
    n_Stretch_piece_id,
    n_Stretch_lo,
    n_Stretch_hi,
    ⟨pg_Request, hd_Request, po_Request, sa_Request⟩,
    ⟨mk_Request, a4, i4, kc_Request⟩,
    PySem.W.mg_of X G aC_Request,
    n_Request_told,
    n_Request_whole,
    ⟨pg_Requests, hd_Requests, po_Requests, sa_Requests⟩,
    ⟨mk_Requests, a14, i14, kc_Requests⟩,
    PySem.W.mg_of X G aC_Requests,
    n_Requests_by_number,
    F0,
    F0.binds (ps := ["self", "within", "since", "to", "kind"]) (fun _ _ _ _ _ _ us hl => match us, hl with | [_, _, _, _, _], _ => rfl),
    F1,
    F1.binds (ps := ["self", "lo", "hi"]) (fun _ _ _ _ _ _ us hl => match us, hl with | [_, _, _], _ => rfl),
    ⟨a1, i1, k1⟩,
    F2,
    F2.binds (ps := ["self", "piece_id", "lo", "hi"]) (fun _ _ _ _ _ _ us hl => match us, hl with | [_, _, _, _], _ => rfl),
    F3,
    F3.binds (ps := ["self"]) (fun _ _ _ _ _ _ us hl => match us, hl with | [_], _ => rfl),
    ⟨a3, i3, k3⟩,
    F4,
    F4.binds (ps := ["self"]) (fun _ _ _ _ _ _ us hl => match us, hl with | [_], _ => rfl),
    F5,
    F5.binds (ps := ["self", "piece_id", "piece"]) (fun _ _ _ _ _ _ us hl => match us, hl with | [_, _, _], _ => rfl),
    ⟨a5, i5, k5⟩,
    F6,
    F6.binds (ps := ["self", "start_id", "piece_id"]) (fun _ _ _ _ _ _ us hl => match us, hl with | [_, _, _], _ => rfl),
    ⟨a6, i6, k6⟩,
    F7,
    F7.binds (ps := ["self", "piece_id"]) (fun _ _ _ _ _ _ us hl => match us, hl with | [_, _], _ => rfl),
    ⟨a7, i7, k7⟩,
    F8,
    F8.binds (ps := ["self"]) (fun _ _ _ _ _ _ us hl => match us, hl with | [_], _ => rfl),
    ⟨a8, i8, k8⟩,
    F9,
    F9.binds (ps := ["self"]) (fun _ _ _ _ _ _ us hl => match us, hl with | [_], _ => rfl),
    ⟨a9, i9, k9⟩,
    F10,
    F10.binds (ps := ["self", "piece_id"]) (fun _ _ _ _ _ _ us hl => match us, hl with | [_, _], _ => rfl),
    ⟨a10, i10, k10⟩,
    F11,
    F11.binds (ps := ["self", "kind"]) (fun _ _ _ _ _ _ us hl => match us, hl with | [_, _], _ => rfl),
    ⟨a11, i11, k11⟩,
    F12,
    F12.binds (ps := ["self"]) (fun _ _ _ _ _ _ us hl => match us, hl with | [_], _ => rfl),
    ⟨a12, i12, k12⟩,
    F13,
    F13.binds (ps := ["self", "stretch"]) (fun _ _ _ _ _ _ us hl => match us, hl with | [_, _], _ => rfl),
    ⟨a13, i13, k13⟩,
    F14,
    F14.binds (ps := ["self"]) (fun _ _ _ _ _ _ us hl => match us, hl with | [_], _ => rfl),
    F15,
    F15.binds (ps := ["self"]) (fun _ _ _ _ _ _ us hl => match us, hl with | [_], _ => rfl),
    ⟨a15, i15, k15⟩,
    F16,
    F16.binds (ps := ["self", "request", "piece_id", "within", "since", "to", "kind"]) (fun _ _ _ _ _ _ us hl => match us, hl with | [_, _, _, _, _, _, _], _ => rfl),
    ⟨a16, i16, k16⟩,
    F17,
    F17.binds (ps := ["self", "request"]) (fun _ _ _ _ _ _ us hl => match us, hl with | [_, _], _ => rfl),
    ⟨a17, i17, k17⟩,
    F18,
    F18.binds (ps := ["self", "request"]) (fun _ _ _ _ _ _ us hl => match us, hl with | [_, _], _ => rfl),
    ⟨a18, i18, k18⟩,
    F19,
    F19.binds (ps := ["self", "request", "piece_id"]) (fun _ _ _ _ _ _ us hl => match us, hl with | [_, _, _], _ => rfl),
    ⟨a19, i19, k19⟩,
    F20,
    F20.binds (ps := ["self", "kind"]) (fun _ _ _ _ _ _ us hl => match us, hl with | [_, _], _ => rfl),
    ⟨a20, i20, k20⟩,
    F21,
    F21.binds (ps := ["requests", "call", "numbers"]) (fun _ _ _ _ _ _ us hl => match us, hl with | [_, _, _], _ => rfl),
    PySem.W.mg_of X G a21,
    F22,
    F22.binds (ps := ["calls"]) (fun _ _ _ _ _ _ us hl => match us, hl with | [_], _ => rfl),
    PySem.W.mg_of X G a22,
    ⟨_, PySem.W.mg_of X G v_MOST_PIECES, ⟨_, rfl⟩⟩,
    ⟨_, PySem.W.mg_of X G v_TOLD_BEFORE, ⟨_, rfl⟩⟩,
    ⟨_, PySem.W.mg_of X G v_GOES_ROUND, ⟨_, rfl⟩⟩,
    ⟨_, PySem.W.mg_of X G v_TOO_MANY, ⟨_, rfl⟩⟩,
    ⟨_, PySem.W.mg_of X G v_NOT_TOLD, ⟨_, rfl⟩⟩,
    ⟨_, PySem.W.mg_of X G v_LAST_REQUEST, ⟨_, rfl⟩⟩,
    ⟨_, PySem.W.mg_of X G v_LAST_KIND, ⟨_, rfl⟩⟩,
    ⟨_, PySem.W.mg_of X G v_WRONG_NUMBER, ⟨_, rfl⟩⟩,
    ⟨_, PySem.W.mg_of X G v_BEGIN, ⟨_, rfl⟩⟩,
    ⟨_, PySem.W.mg_of X G v_TELL, ⟨_, rfl⟩⟩,
    ⟨_, PySem.W.mg_of X G v_APART, ⟨_, rfl⟩⟩,
    ⟨_, PySem.W.mg_of X G v_PATH, ⟨_, rfl⟩⟩,
    ⟨_, PySem.W.mg_of X G v_TIME, ⟨_, rfl⟩⟩,
    PySem.W.mg_of X G v_NUMBERS_OF_CALL,
    fun _ => .inr ⟨_, _, _, w_NUMBERS_OF_CALL, rfl, rfl, by show 6 ≤ sizeLine; decide, .cons ⟨_, rfl⟩ (.cons ⟨_, rfl⟩ (.cons ⟨_, rfl⟩ (.cons ⟨_, rfl⟩ (.cons ⟨_, rfl⟩ (.cons ⟨_, rfl⟩ (.nil))))))⟩,
    PySem.W.mg_none_of X G z_len,
    PySem.W.mg_none_of X G z_list,
    PySem.W.mg_none_of X G z_max,
    PySem.W.mg_none_of X G z_min,
    PySem.W.mg_none_of X G z_range,
    PySem.W.mg_none_of X G z_reversed,
    PySem.W.mg_none_of X G z_sum⟩
end Tp

set_option Elab.async false
set_option linter.all false
set_option maxRecDepth 100000
set_option maxHeartbeats 2000000
/-! How a request's pieces lie in the heap (commit B = 9b99e8e). -/
namespace Tp
open PySem PySem.Spec PyProof.Rows L2
open Tw (WF comes)
def PieceAt (A : Adr) (H : Hp) (a : Addr) (p : Kp189.Piece) : Prop :=
  ∃ dx, H a = some (.ins A.cPiece dx (F_Piece (.int p.within) (.int p.from_) (.int p.to) (.int p.kind)))
/-- an entry of the dict: the id, and the piece's object -/
def Entry (A : Adr) (H : Hp) (p : Kp189.Piece) (kv : Key × V) : Prop := kv.1 = Sum.inl (p.id : Int) ∧ ∃ a, kv.2 = .ref a ∧ PieceAt A H a p
/-- the whole's id, or 0 -/
def wholeN (L : List Kp189.Piece) (t : Nat) : Nat := match Kp189.root L t with
  | some p => p.id
  | none => 0
/-- a request to be read -/
structure ReqR (A : Adr) (H : Hp) (x d : Addr) (t : Nat) (L : List Kp189.Piece) (kvs : List (Key × V)) : Prop where
  obj : ∃ dx, H x = some (.ins A.cRequest dx (F_Request (.ref d) (.int (wholeN L t))))
  rd : Rd H d (.dK kvs)
  ent : Paired (Entry A H) L kvs
  wf : ∃ r, WF t L r
/-- a request -/
def ReqAt (A : Adr) (H : Hp) (x d : Addr) (t : Nat) (L : List Kp189.Piece) : Prop := ∃ kvs, H d = some (.dK kvs) ∧ ReqR A H x d t L kvs

section
variable {A : Adr} {H H' : Hp} {x d : Addr} {t : Nat} {L : List Kp189.Piece} {kvs : List (Key × V)}
theorem PieceAt.same {a : Addr} {p : Kp189.Piece} (h : PieceAt A H a p) (s : ∀ dx, H a = some (.ins A.cPiece dx (F_Piece (.int p.within) (.int p.from_) (.int p.to) (.int p.kind))) → H' a = some (.ins A.cPiece dx (F_Piece (.int p.within) (.int p.from_) (.int p.to) (.int p.kind)))) : PieceAt A H' a p :=
  let ⟨dx, e⟩ := h
  ⟨dx, s dx e⟩
theorem Entry.keep {p : Kp189.Piece} {kv : Key × V} (h : Entry A H p kv) (s : ∀ b dx fs, H b = some (.ins A.cPiece dx fs) → H' b = some (.ins A.cPiece dx fs)) : Entry A H' p kv := by
  obtain ⟨e, a, e2, dx, e3⟩ := h
  exact ⟨e, a, e2, dx, s _ _ _ e3⟩
theorem ents_keep (s : ∀ b dx fs, H b = some (.ins A.cPiece dx fs) → H' b = some (.ins A.cPiece dx fs)) : ∀ {L : List Kp189.Piece} {kvs : List (Key × V)}, Paired (Entry A H) L kvs → Paired (Entry A H') L kvs
  | _, _, .nil => .nil
  | _, _, .cons r t => .cons (r.keep s) (ents_keep s t)
/-- everything but the dict stands as it was -/
theorem ReqR.keep (R : ReqR A H x d t L kvs) (s : ∀ b o, H b = some o → b ≠ d → H' b = some o) (rd : Rd H' d (.dK kvs)) : ReqR A H' x d t L kvs := by
  obtain ⟨dx, e⟩ := R.obj
  have notd : ∀ b C dy fs, H b = some (.ins C dy fs) → b ≠ d := fun b C dy fs e z => by
    rcases R.rd with q | ⟨o, q⟩
    · rw [z, q] at e; cases e
    · rw [z, q] at e; cases e
  exact ⟨⟨dx, s _ _ e (notd _ _ _ _ e)⟩, rd, ents_keep (fun b dy fs q => s _ _ q (notd _ _ _ _ q)) R.ent, R.wf⟩
theorem ReqR.same (R : ReqR A H x d t L kvs) (s : Same H H') : ReqR A H' x d t L kvs :=
  R.keep (fun b o e _ => s b o e) (R.rd.elim (fun q => .inl (s _ _ q)) fun ⟨o, q⟩ => .inr ⟨o, s _ _ q⟩)
theorem ReqR.noteq (R : ReqR A H x d t L kvs) : x ≠ d := by
  obtain ⟨dx, e⟩ := R.obj
  rcases R.rd with q | ⟨o, q⟩
  · exact ne_of e q (by intro z; cases z)
  · exact ne_of e q (by intro z; cases z)
/-- what the dict holds at an id -/
theorem val_none {i : Nat} : ∀ {L : List Kp189.Piece} {kvs : List (Key × V)}, Paired (Entry A H) L kvs → (∀ p ∈ L, p.id ≠ i) → valV kvs (Sum.inl (i : Int) : Key) = none
  | _, _, .nil, _ => rfl
  | p :: L, kv :: kvs, .cons r t, h => by
    have e : ¬ kv.1 = Sum.inl (i : Int) := by
      rw [r.1]
      intro z
      have := Sum.inl.inj z
      exact h p List.mem_cons_self (by omega)
    rw [valV_neg e]
    exact val_none t fun q hq => h q (List.mem_cons_of_mem _ hq)
theorem val_some {i : Nat} {p : Kp189.Piece} : ∀ {L : List Kp189.Piece} {kvs : List (Key × V)}, Paired (Entry A H) L kvs → (L.find? fun q => q.id == i) = some p → ∃ a, valV kvs (Sum.inl (i : Int) : Key) = some (.ref a) ∧ PieceAt A H a p
  | _, _, .nil, h => by simp at h
  | q :: L, kv :: kvs, .cons r t, h => by
    rw [List.find?_cons] at h
    by_cases e : q.id = i
    · rw [beq_iff_eq.mpr e] at h
      have z := Option.some.inj h
      subst z
      obtain ⟨e1, a, e2, hp⟩ := r
      exact ⟨a, by rw [valV_pos (by rw [e1, e]), e2], hp⟩
    · rw [beq_eq_false_iff_ne.mpr e] at h
      have e1 : ¬ kv.1 = Sum.inl (i : Int) := by
        rw [r.1]
        intro z
        have := Sum.inl.inj z
        exact e (by omega)
      rw [valV_neg e1]
      exact val_some t h
theorem find_eq {r : Nat → Nat} (W : WF t L r) (i : Nat) : (L.find? fun q => q.id == i) = Kp189.find L t i := by
  unfold Kp189.find
  have : ∀ l : List Kp189.Piece, (∀ p ∈ l, p.request = t) → (l.find? fun q => q.id == i) = l.find? fun q => q.request == t && q.id == i := by
    intro l
    induction l with
    | nil => intro _; rfl
    | cons p l ih =>
      intro h
      rw [List.find?_cons, List.find?_cons, ih fun q hq => h q (List.mem_cons_of_mem _ hq), h p List.mem_cons_self, beq_self_eq_true, Bool.true_and]
  exact this L W.req
theorem ReqR.val (R : ReqR A H x d t L kvs) (i : Nat) : (Kp189.find L t i = none ∧ valV kvs (Sum.inl (i : Int) : Key) = none) ∨ ∃ p a, Kp189.find L t i = some p ∧ valV kvs (Sum.inl (i : Int) : Key) = some (.ref a) ∧ PieceAt A H a p := by
  obtain ⟨r, W⟩ := R.wf
  cases e : Kp189.find L t i with
  | none => exact .inl ⟨rfl, val_none R.ent (Tw.find_none W e)⟩
  | some p =>
    obtain ⟨a, e1, e2⟩ := val_some R.ent ((find_eq W i).trans e)
    exact .inr ⟨p, a, rfl, e1, e2⟩
theorem wholeN_pos {r : Nat → Nat} (W : WF t L r) {p : Kp189.Piece} (h : Kp189.root L t = some p) : wholeN L t = p.id ∧ p.id ≠ 0 := by
  unfold wholeN
  rw [h]
  exact ⟨rfl, W.pos p (Tw.root_some h).1⟩
theorem wholeN_none (h : Kp189.root L t = none) : wholeN L t = 0 := by
  unfold wholeN
  rw [h]
end
end Tp

set_option Elab.async false
set_option linter.all false
set_option maxRecDepth 100000
set_option maxHeartbeats 2000000
/-! Piece and Request: a promise for each def (commit B = 9b99e8e). -/
namespace Tp
open PySem PySem.Spec PyProof.Rows L2
open Tw (WF comes)
def sp_Piece_init (A : Adr) : Sp := fun vs H Q _ => ∃ (p dx : Addr) (a b c e : V), vs = [.ref p, a, b, c, e] ∧ H p = some (.ins A.cPiece dx []) ∧ Q .non (upd H p (.ins A.cPiece dx (F_Piece a b c e)))
def sp_Request_init (A : Adr) : Sp := fun vs H Q _ => ∃ (x dx : Addr), vs = [.ref x] ∧ H x = some (.ins A.cRequest dx []) ∧ ∀ d, H d = none → Q .non (upd (upd H d (.dK [])) x (.ins A.cRequest dx (F_Request (.ref d) (.int 0))))
def sp_Request_comes_to (A : Adr) : Sp := fun vs H Q _ => ∃ (x d : Addr) (t : Nat) (L : List Kp189.Piece) (kvs : List (Key × V)) (s j : Nat), vs = [.ref x, .int s, .int j] ∧ ReqR A H x d t L kvs ∧ j ≠ 0 ∧ Q (.bl (comes L t j s)) H
/-- is it within the whole? -/
def lies (L : List Kp189.Piece) (t i : Nat) : Bool := match Kp189.root L t with
  | some p => comes L t p.id i
  | none => false
def sp_Request_lies_within_whole (A : Adr) : Sp := fun vs H Q _ => ∃ (x d : Addr) (t : Nat) (L : List Kp189.Piece) (kvs : List (Key × V)) (i : Nat), vs = [.ref x, .int i] ∧ ReqR A H x d t L kvs ∧ Q (.bl (lies L t i)) H
section
variable {P : Program} {w : World} {K : PySem.W.Frag} {mg : Str → Option Value} {base : Heap} {A : Adr}
theorem G_Piece_init (T : Txt K mg A) : FnOk P w K mg base CX0 1 A.f_Piece_init A.d_Piece_init ["self", "within", "since", "to", "kind"] (sp_Piece_init A) := by
  refine T.fn_Piece_init.ok sc_Piece_init (fun vs H Q E h => ?_) (fun cdv A' outer s H vs Q E hr h => ?_)
  · obtain ⟨p, dx, a, b, c, e, rfl, _⟩ := h
    rfl
  · obtain ⟨p, dx, a, b, c, e, rfl, hp, q⟩ := h
    refine ⟨_, (pss_cons (ps_fld (pv 0) (pv 1) rfl)
      (pss_cons (ps_fld (pv 0) (pv 2) rfl)
      (pss_cons (ps_fld (pv 0) (pv 3) rfl)
      (pss_one (ps_fld (pv 0) (pv 4) rfl))))), ?_⟩
    refine ⟨_, rfl, _, rfl, p, A.cPiece, dx, _, rfl, hp, T.cl_Piece, T.na_Piece_within, few pl0, ?_⟩
    refine ⟨_, rfl, _, rfl, p, A.cPiece, dx, _, rfl, upd_same, T.cl_Piece, T.na_Piece_since, few (pl pl0), ?_⟩
    refine ⟨_, rfl, _, rfl, p, A.cPiece, dx, _, rfl, upd_same, T.cl_Piece, T.na_Piece_to, few (pl (pl pl0)), ?_⟩
    refine ⟨_, rfl, _, rfl, p, A.cPiece, dx, _, rfl, upd_same, T.cl_Piece, T.na_Piece_kind, few (pl (pl (pl pl0))), ?_⟩
    rw [upd_upd, upd_upd, upd_upd]
    exact q
theorem G_Request_init (T : Txt K mg A) : FnOk P w K mg base CX0 1 A.f_Request_init A.d_Request_init ["self"] (sp_Request_init A) := by
  refine T.fn_Request_init.ok sc_Request_init (fun vs H Q E h => ?_) (fun cdv A' outer s H vs Q E hr h => ?_)
  · obtain ⟨x, dx, rfl, _⟩ := h
    rfl
  · obtain ⟨x, dx, rfl, hx, q⟩ := h
    refine ⟨_, (pss_cons (ps_fld (pv 0) pe_dnewK rfl)
      (pss_one (ps_fld (pv 0) pe_int rfl))), ?_⟩
    intro d hd
    refine ⟨_, rfl, x, A.cRequest, dx, _, rfl, (by rw [upd_ne (ne_of_none hx hd)]; exact hx), T.cl_Request, T.na_Request_told, few pl0, ?_⟩
    refine ⟨_, rfl, x, A.cRequest, dx, _, rfl, upd_same, T.cl_Request, T.na_Request_whole, few (pl pl0), ?_⟩
    rw [upd_upd]
    exact q d hd
theorem G_Request_comes_to (T : Txt K mg A) : FnOk P w K mg base CX0 1 A.f_Request_comes_to A.d_Request_comes_to ["self", "start_id", "piece_id"] (sp_Request_comes_to A) := by
  refine T.fn_Request_comes_to.ok sc_Request_comes_to (fun vs H Q E h => ?_) (fun cdv A' outer s0 H vs Q E hr h => ?_)
  · obtain ⟨x, d, t, L, kvs, s, j, rfl, _⟩ := h
    rfl
  · obtain ⟨x, d, t, L, kvs, s, j, rfl, R, hj, q⟩ := h
    have hu := hu_of hr
    obtain ⟨dx, hx⟩ := R.obj
    obtain ⟨r, W⟩ := R.wf
    refine ⟨_, (pss_cons (ps_set (i := 3) sc_Request_comes_to.nd rfl (Or.inl rfl) (pv 1))
      (pss_cons (ps_while PassesOwn.never (PW.pt (pw_and (pt_cmpR op_ne (pv 3) (pv 2) (nomark _)) (pw_and1 (pt_cmp (pc_din hu (pv 3) (pe_fld (pv 0) rfl))))))
      (pss_one (ps_set (i := 3) sc_Request_comes_to.nd rfl (Or.inl rfl) (pe_fld (pe_dget hu (pe_fld (pv 0) rfl) (pv 3) (fun _ _ => rfl)) rfl))))
      (pss_one (ps_ret (pe_cmpR op_eq (pv 3) (pv 2) (nomark _)))))), ?_⟩
    refine ⟨_, rfl, ?_⟩
    refine ⟨fun m σ H' => H' = H ∧ ∃ i : Nat, σ = [some (.ref x), some (.int s), some (.int j), some (.int i)] ∧ m = r i ∧ comes L t j i = comes L t j s, ⟨r s, rfl, s, rfl, rfl, rfl⟩, ?_⟩
    rintro m σ H' ⟨rfl, i, rfl, rfl, e⟩
    refine ⟨_, rfl, _, rfl, rfl, _, rfl, ?_⟩
    refine ite2 (fun hne => ?_) (fun hne => ?_)
    · have hij : i ≠ j := by
        intro z
        subst z
        simp at hne
      refine ⟨_, rfl, _, rfl, x, A.cRequest, dx, _, _, rfl, hx, T.cl_Request, T.na_Request_told, F_Request_told _ _, d, _, rfl, DGet.r R.rd rfl, _, rfl, ?_⟩
      rcases R.val i with ⟨e1, e2⟩ | ⟨p, a, e1, e2, dp, hp⟩
      · rw [e2]
        refine iteF ?_
        refine ⟨_, rfl, _, rfl, rfl, ?_⟩
        rw [← e, Tw.comes_out W hij e1] at q
        have z : decide (V.int (i : Int) = V.int (j : Int)) = false := by
          refine decide_eq_false fun z => hij ?_
          have := V.int.inj z
          omega
        rw [z]
        exact q
      · rw [e2]
        refine iteT ?_
        obtain ⟨hpL, _, hpi⟩ := Tw.find_some_mem e1
        refine ⟨fun σ' H1 => ∃ m', m' < r i ∧ (H1 = H' ∧ ∃ i : Nat, σ' = [some (.ref x), some (.int s), some (.int j), some (.int i)] ∧ m' = r i ∧ comes L t j i = comes L t j s), fun _ _ z => z, ?_⟩
        refine ⟨_, rfl, x, A.cRequest, dx, _, _, rfl, hx, T.cl_Request, T.na_Request_told, F_Request_told _ _, _, rfl, d, _, rfl, DGet.r R.rd e2, a, A.cPiece, dp, _, _, rfl, hp, T.cl_Piece, T.na_Piece_within, F_Piece_within _ _ _ _, ?_⟩
        have k := W.rk p hpL
        rw [hpi] at k
        refine ⟨r p.within, by omega, rfl, p.within, rfl, rfl, ?_⟩
        rw [← e, ← hpi, Tw.comes_up W hpL (by rw [hpi]; exact hij)]
    · have hij : i = j := by
        simp at hne
        omega
      subst hij
      refine iteF ?_
      refine ⟨_, rfl, _, rfl, rfl, ?_⟩
      rw [← e, Tw.comes_self W hj] at q
      rw [decide_eq_true rfl]
      exact q
theorem G_Request_lies_within_whole (T : Txt K mg A) : FnOk P w K mg base CX0 2 A.f_Request_lies_within_whole A.d_Request_lies_within_whole ["self", "piece_id"] (sp_Request_lies_within_whole A) := by
  refine T.fn_Request_lies_within_whole.ok sc_Request_lies_within_whole (fun vs H Q E h => ?_) (fun cdv A' outer s0 H vs Q E hr h => ?_)
  · obtain ⟨x, d, t, L, kvs, i, rfl, _⟩ := h
    rfl
  · obtain ⟨x, d, t, L, kvs, i, rfl, R, q⟩ := h
    obtain ⟨dx, hx⟩ := R.obj
    obtain ⟨r, W⟩ := R.wf
    refine ⟨_, (pss_one (ps_ret (pe_and (pe_cmpR op_ne (pe_fld (pv 0) rfl) pe_int (nomark _)) (pe_one (pe_meth (pv 0) T.cl_Request T.mt_Request_comes_to (G_Request_comes_to T) (hr.mono (by decide)) T.bn_Request_comes_to .nil pass0 (pa_cons (pv 1) (pa_cons (pe_fld (pv 0) rfl) pa_nil))))))), ?_⟩
    refine ⟨_, rfl, x, A.cRequest, dx, _, _, rfl, hx, T.cl_Request, T.na_Request_whole, F_Request_whole _ _, rfl, _, rfl, ?_⟩
    cases e : Kp189.root L t with
    | none =>
      have z := wholeN_none e
      unfold lies at q
      rw [e] at q
      rw [z]
      refine iteF ?_
      exact q
    | some p =>
      obtain ⟨z1, z2⟩ := wholeN_pos W e
      unfold lies at q
      rw [e] at q
      refine ite2 (fun _ => ?_) (fun h => ?_)
      · refine ⟨_, rfl, x, dx, _, rfl, hx, F_Request_no _ _ (by decide +kernel) (by decide +kernel), _, rfl, _, rfl, x, A.cRequest, dx, _, _, rfl, hx, T.cl_Request, T.na_Request_whole, F_Request_whole _ _, ?_⟩
        exact ⟨x, d, t, L, kvs, i, wholeN L t, rfl, R, by rw [z1]; exact z2, by rw [z1]; exact q⟩
      · exfalso
        apply h
        rw [z1]
        have : ¬ V.int ((p.id : Nat) : Int) = V.int 0 := fun y => z2 (by have := V.int.inj y; omega)
        rw [decide_eq_false this]
        rfl
end
end Tp

set_option Elab.async false
set_option linter.all false
set_option maxRecDepth 100000
set_option maxHeartbeats 2000000
/-! Request.apart and Request.tell (commit B = 9b99e8e). -/
namespace Tp
open PySem PySem.Spec PyProof.Rows L2
open Tw (WF comes)
section
variable {t : Nat} {L : List Kp189.Piece} {r : Nat → Nat}
theorem of_all (W : WF t L r) : Kp189.ofRequest L t = L := by
  unfold Kp189.ofRequest
  refine List.filter_eq_self.mpr fun p hp => ?_
  rw [W.req p hp]
  exact beq_self_eq_true t
theorem apart_eq (W : WF t L r) : Kp189.apart L t = (L.filter fun p => !lies L t p.id).length := by
  unfold Kp189.apart
  rw [of_all W]
  cases e : Kp189.root L t with
  | none =>
    have z : ∀ p ∈ L, (!lies L t p.id) = true := fun p _ => by
      unfold lies
      rw [e]
      rfl
    rw [List.filter_eq_self.mpr z]
  | some w =>
    have z : (fun p : Kp189.Piece => !lies L t p.id) = fun p => !Kp189.leads L t w.id (Kp189.PIECES + 1) p.id := by
      funext p
      unfold lies
      rw [e]
      rfl
    rw [z]
/-- what a request makes of a piece that is told -/
def tellR (L : List Kp189.Piece) (t : Nat) (p : Kp189.Piece) : List Kp189.Piece × Int :=
  if ((Kp189.find L t p.id).isSome || (p.within == 0 && (Kp189.root L t).isSome)) = true then (L, -17)
  else if comes L t p.id p.within = true then (L, -41)
  else if 64 ≤ L.length then (L, -28)
  else (L ++ [p], ((L.length + 1 : Nat) : Int))
theorem root_snoc {p : Kp189.Piece} (hr : p.request = t) : Kp189.root (L ++ [p]) t = match Kp189.root L t with
    | some q => some q
    | none => if p.within = 0 then some p else none := by
  unfold Kp189.root
  rw [List.find?_append]
  cases List.find? (fun p => p.request == t && p.within == 0) L with
  | some q => rfl
  | none =>
    rw [Option.none_or, List.find?_cons, hr, beq_self_eq_true, Bool.true_and]
    by_cases h : p.within = 0
    · rw [if_pos h, beq_iff_eq.mpr h]
    · rw [if_neg h, beq_eq_false_iff_ne.mpr h]
      rfl
theorem wholeN_snoc {p : Kp189.Piece} (hr : p.request = t) (h : p.within = 0 → Kp189.root L t = none) : wholeN (L ++ [p]) t = if p.within = 0 then p.id else wholeN L t := by
  unfold wholeN
  rw [root_snoc hr]
  by_cases e : p.within = 0
  · rw [h e, if_pos e, if_pos e]
  · rw [if_neg e, if_neg e]
    cases Kp189.root L t <;> rfl
end
def sp_Request_apart (A : Adr) : Sp := fun vs H Q _ => ∃ (x d : Addr) (t : Nat) (L : List Kp189.Piece), vs = [.ref x] ∧ ReqAt A H x d t L ∧ ∀ H', Same H H' → Q (.int (Kp189.apart L t)) H'
def sp_Request_tell (A : Adr) : Sp := fun vs H Q _ => ∃ (x d pa : Addr) (t : Nat) (L : List Kp189.Piece) (p : Kp189.Piece), vs = [.ref x, .int p.id, .ref pa] ∧ ReqAt A H x d t L ∧ PieceAt A H pa p ∧ p.request = t ∧ p.id ≠ 0 ∧ p.from_ ≤ p.to ∧
  ∀ H', ReqAt A H' x d t (tellR L t p).1 → (∀ b o, H b = some o → b ≠ x → b ≠ d → H' b = some o) → Q (.int (tellR L t p).2) H'
section
variable {P : Program} {w : World} {K : PySem.W.Frag} {mg : Str → Option Value} {base : Heap} {A : Adr}
theorem G_Request_apart (T : Txt K mg A) : FnOk P w K mg base CX0 3 A.f_Request_apart A.d_Request_apart ["self"] (sp_Request_apart A) := by
  refine T.fn_Request_apart.ok sc_Request_apart (fun vs H Q E h => ?_) (fun cdv A' outer s0 H vs Q E hr h => ?_)
  · obtain ⟨x, d, t, L, rfl, _⟩ := h
    rfl
  · obtain ⟨x, d, t, L, rfl, ⟨kvs, hd, R⟩, q⟩ := h
    obtain ⟨dx, hx⟩ := R.obj
    obtain ⟨r, W⟩ := R.wf
    have hxd := R.noteq
    refine ⟨_, (pss_one (ps_ret (pe_callB call_len_seq (by rfl) T.b_len PySem.boot_len (pa_cons (pe_lock (pe_lc (own := [("piece_id", 1)]) rfl sc_Request_apart.nd (pi_keys (pe_fld (pv 0) rfl)) (blk_of (N := ["self", "piece_id"]) (sc := defScope s_Request_apart) ⟨rfl, by decide +kernel, by decide +kernel, by decide +kernel, by decide +kernel⟩ rfl rfl) (fun _ _ _ _ _ => (pg_name (i := 1) sc_Request_apart.nd rfl (Or.inl rfl))) (fun _ _ _ _ _ => (pts_one (pt_not (pt_val (pe_meth (pv 0) T.cl_Request T.mt_Request_lies_within_whole (G_Request_lies_within_whole T) (hr.mono (by decide)) T.bn_Request_lies_within_whole .nil pass0 (pa_cons (pv 1) pa_nil)))))) (fun _ _ _ _ _ => (pv 1)))) pa_nil)))), ?_⟩
    refine ⟨d, .dK kvs, hd, trivial, fun od => ?_⟩
    have hx1 : (upd H d (.frz od (.dK kvs))) x = some (.ins A.cRequest dx (F_Request (.ref d) (.int (wholeN L t)))) := by rw [upd_ne hxd]; exact hx
    refine ⟨_, rfl, x, A.cRequest, dx, _, _, rfl, hx1, T.cl_Request, T.na_Request_told, F_Request_told _ _, d, od, rfl, .inl ⟨kvs, upd_same, fun D hD => ?_⟩⟩
    have hDd : D ≠ d := fun z => by rw [z, upd_same] at hD; cases hD
    have hDn : H D = none := by rw [upd_ne hDd] at hD; exact hD
    have hDx : x ≠ D := ne_of_none hx1 hD
    have hlen : ∀ i, ((((L.take i).filter fun p => !lies L t p.id).map fun p => V.int (p.id : Int)) : List V).length < sizeLine := fun i => by
      rw [List.length_map]
      refine Nat.lt_of_le_of_lt (Nat.le_trans (List.length_filter_le _ _) ?_) (by show 64 < sizeLine; decide)
      rw [List.length_take]
      exact Nat.le_trans (Nat.min_le_right _ _) W.len
    refine lc_keys (fun i H' => H' = upd (upd H d (.frz od (.dK kvs))) D (.lst (((L.take i).filter fun p => !lies L t p.id).map fun p => V.int (p.id : Int)))) rfl (fun i H' _ e => ?_) (fun i k v H' hk e => ?_) (fun H' e => ?_)
    · rw [e, upd_ne (Ne.symm hDd), upd_same]
    · subst e
      obtain ⟨p, hp, e1, a, e2, hpa⟩ := paired_at R.ent hk
      have e1 : k = Sum.inl (p.id : Int) := e1
      subst e1
      have R2 : ReqR A (upd (upd H d (.frz od (.dK kvs))) D (.lst (((L.take i).filter fun p => !lies L t p.id).map fun p => V.int (p.id : Int)))) x d t L kvs := by
        refine R.keep (fun b o z hb => ?_) (.inr ⟨od, ?_⟩)
        · rw [upd_ne (ne_of_none z hDn), upd_ne hb]; exact z
        · rw [upd_ne (Ne.symm hDd), upd_same]
      have hx2 : (upd (upd H d (.frz od (.dK kvs))) D (.lst (((L.take i).filter fun p => !lies L t p.id).map fun p => V.int (p.id : Int)))) x = some (.ins A.cRequest dx (F_Request (.ref d) (.int (wholeN L t)))) := by rw [upd_ne hDx]; exact hx1
      refine ⟨rfl, _, rfl, x, dx, _, rfl, hx2, F_Request_no _ _ (by decide +kernel) (by decide +kernel), _, rfl, ?_⟩
      refine ⟨x, d, t, L, kvs, p.id, rfl, R2, _, rfl, ?_⟩
      have tk := take_snoc hp
      cases el : lies L t p.id with
      | true =>
        refine iteF ?_
        show _ = _
        rw [tk, List.filter_append, List.filter_cons, if_neg (by rw [el]; decide), List.filter_nil, List.append_nil]
      | false =>
        refine iteT ?_
        refine ⟨_, rfl, _, upd_same, hlen i, ?_⟩
        show _ = _
        rw [upd_upd, tk, List.filter_append, List.filter_cons, if_pos (by rw [el]; rfl), List.filter_nil, List.map_append]
        rfl
    · subst e
      have ek : L.take kvs.length = L := by rw [← paired_len R.ent, List.take_length]
      rw [ek]
      refine ⟨by rw [upd_ne (Ne.symm hDd), upd_same], D, _, rfl, .inl (SqL.of (by rw [upd_ne hDd, upd_same])), ?_⟩
      rw [List.length_map, ← apart_eq W]
      refine q _ fun b o z => ?_
      by_cases hb : b = d
      · rw [hb, upd_same]
        rw [hb, hd] at z
        exact z
      · rw [upd_ne hb, upd_ne (ne_of_none z hDn), upd_ne hb]
        exact z
theorem G_Request_tell (T : Txt K mg A) : FnOk P w K mg base CX0 2 A.f_Request_tell A.d_Request_tell ["self", "piece_id", "piece"] (sp_Request_tell A) := by
  refine T.fn_Request_tell.ok sc_Request_tell (fun vs H Q E h => ?_) (fun cdv A' outer s0 H vs Q E hr h => ?_)
  · obtain ⟨x, d, pa, t, L, p, rfl, _⟩ := h
    rfl
  · obtain ⟨x, d, pa, t, L, p, rfl, RA, ⟨dp, hp⟩, hpr, hp0, hpo, q⟩ := h
    obtain ⟨kvs, hd, R⟩ := id RA
    have hu := hu_of hr
    obtain ⟨dx, hx⟩ := R.obj
    obtain ⟨r, W⟩ := R.wf
    have hxd := R.noteq
    have hpd : pa ≠ d := ne_of hp hd (by intro z; cases z)
    have hkl : kvs.length = L.length := (paired_len R.ent).symm
    have same : ∀ b o, H b = some o → b ≠ x → b ≠ d → H b = some o := fun _ _ z _ _ => z
    refine ⟨_, (pss_cons (ps_if (PW.pt (pw_or (pt_cmp (pc_din hu (pv 1) (pe_fld (pv 0) rfl))) (pw_or1 (PW.pt (pw_and (pt_cmpR op_eq (pe_fld (pv 2) rfl) pe_int (nomark _)) (pw_and1 (pt_cmpR op_ne (pe_fld (pv 0) rfl) pe_int (nomark _))))))))
      (pss_one (ps_ret (pe_globE rfl T.k_TOLD_BEFORE)))
      pss_nil)
      (pss_cons (ps_if (pt_val (pe_meth (pv 0) T.cl_Request T.mt_Request_comes_to (G_Request_comes_to T) (hr.mono (by decide)) T.bn_Request_comes_to .nil pass0 (pa_cons (pe_fld (pv 2) rfl) (pa_cons (pv 1) pa_nil))))
      (pss_one (ps_ret (pe_globE rfl T.k_GOES_ROUND)))
      pss_nil)
      (pss_cons (ps_if (pt_cmpR op_eq (pe_callB call_lenD (by rfl) T.b_len PySem.boot_len (pa_cons (pe_fld (pv 0) rfl) pa_nil)) (pe_globE rfl T.k_MOST_PIECES) (nomark _))
      (pss_one (ps_ret (pe_globE rfl T.k_TOO_MANY)))
      pss_nil)
      (pss_cons (ps_dput hu (pe_fld (pv 0) rfl) (pv 1) (pv 2) rfl)
      (pss_cons (ps_if (pt_cmpR op_eq (pe_fld (pv 2) rfl) pe_int (nomark _))
      (pss_one (ps_fld (pv 0) (pv 1) rfl))
      pss_nil)
      (pss_one (ps_ret (pe_callB call_lenD (by rfl) T.b_len PySem.boot_len (pa_cons (pe_fld (pv 0) rfl) pa_nil))))))))), ?_⟩
    refine ⟨_, rfl, _, rfl, x, A.cRequest, dx, _, _, rfl, hx, T.cl_Request, T.na_Request_told, F_Request_told _ _, d, _, rfl, DGet.r R.rd rfl, _, rfl, ?_⟩
    rcases R.val p.id with ⟨e1, e2⟩ | ⟨p', a, e1, e2, _⟩
    case inr =>
      rw [e2]
      refine iteT (iteT ?_)
      have z : tellR L t p = (L, -17) := by
        unfold tellR
        rw [e1]
        rfl
      rw [z] at q
      exact q H RA same
    rw [e2]
    refine iteF ?_
    refine ⟨_, rfl, pa, A.cPiece, dp, _, _, rfl, hp, T.cl_Piece, T.na_Piece_within, F_Piece_within _ _ _ _, rfl, _, rfl, ?_⟩
    -- the rest, once the first refusal is not due
    refine (fun (rest : (p.within = 0 → Kp189.root L t = none) → ?G) => ?main) ?rest
    case main =>
      refine ite2 (fun h0 => ?_) (fun h0 => ?_)
      · have h0 : p.within = 0 := by
          have := V.int.inj (of_decide_eq_true h0)
          omega
        refine ⟨_, rfl, x, A.cRequest, dx, _, _, rfl, hx, T.cl_Request, T.na_Request_whole, F_Request_whole _ _, rfl, _, rfl, ?_⟩
        cases e : Kp189.root L t with
        | none =>
          rw [wholeN_none e]
          refine iteF ?_
          exact rest fun _ => e
        | some v =>
          obtain ⟨z1, z2⟩ := wholeN_pos W e
          rw [z1]
          have z3 : (!decide (V.int ((v.id : Nat) : Int) = V.int 0)) = true := by
            rw [decide_eq_false fun y => z2 (by have := V.int.inj y; omega)]
            rfl
          rw [z3]
          refine iteT ?_
          have z : tellR L t p = (L, -17) := by
            unfold tellR
            rw [h0, e]
            simp
          rw [z] at q
          exact q H RA same
      · refine iteF ?_
        refine rest fun z => absurd ?_ h0
        rw [z]
        rfl
    case rest =>
      intro hroot
      have notold : ((Kp189.find L t p.id).isSome || (p.within == 0 && (Kp189.root L t).isSome)) = false := by
        rw [e1]
        by_cases h0 : p.within = 0
        · rw [hroot h0]
          simp
        · rw [beq_eq_false_iff_ne.mpr h0]
          rfl
      refine ⟨_, rfl, x, dx, _, rfl, hx, F_Request_no _ _ (by decide +kernel) (by decide +kernel), _, rfl, pa, A.cPiece, dp, _, _, rfl, hp, T.cl_Piece, T.na_Piece_within, F_Piece_within _ _ _ _, _, rfl, x, d, t, L, kvs, p.within, p.id, rfl, R, hp0, _, rfl, ?_⟩
      cases ec : comes L t p.id p.within with
      | true =>
        refine iteT ?_
        have z : tellR L t p = (L, -41) := by
          unfold tellR
          rw [notold, if_neg Bool.false_ne_true, ec, if_pos rfl]
        rw [z] at q
        exact q H RA same
      | false =>
        refine iteF ?_
        refine ⟨_, rfl, x, A.cRequest, dx, _, _, rfl, hx, T.cl_Request, T.na_Request_told, F_Request_told _ _, d, kvs, rfl, hd, rfl, _, rfl, ?_⟩
        by_cases h64 : L.length = 64
        · have z1 : decide (V.int ((kvs.length : Nat) : Int) = V.int 64) = true := by
            rw [hkl, h64]
            rfl
          rw [z1]
          refine iteT ?_
          have z : tellR L t p = (L, -28) := by
            unfold tellR
            rw [notold, if_neg Bool.false_ne_true, ec, if_neg Bool.false_ne_true, if_pos (by omega)]
          rw [z] at q
          exact q H RA same
        · have hlt : L.length < 64 := Nat.lt_of_le_of_ne W.len h64
          have z1 : decide (V.int ((kvs.length : Nat) : Int) = V.int 64) = false := by
            rw [hkl]
            exact decide_eq_false fun y => h64 (by have := V.int.inj y; omega)
          rw [z1]
          refine iteF ?_
          have z : tellR L t p = (L ++ [p], ((L.length + 1 : Nat) : Int)) := by
            unfold tellR
            rw [notold, if_neg Bool.false_ne_true, ec, if_neg Bool.false_ne_true, if_neg (by omega)]
          rw [z] at q
          refine ⟨_, rfl, _, rfl, x, A.cRequest, dx, _, _, rfl, hx, T.cl_Request, T.na_Request_told, F_Request_told _ _, _, rfl, d, _, rfl, DPut.k (k := Sum.inl (p.id : Int)) hd (by rw [hkl]; exact Nat.lt_trans hlt (by decide)), ?_⟩
          have ep : putK kvs (Sum.inl (p.id : Int) : Key) (V.ref pa) = kvs ++ [(Sum.inl (p.id : Int), V.ref pa)] := putK_new _ e2
          rw [ep]
          generalize hH4 : upd H d (.dK (kvs ++ [(Sum.inl (p.id : Int), V.ref pa)])) = H4
          have hd4 : H4 d = some (.dK (kvs ++ [(Sum.inl (p.id : Int), V.ref pa)])) := by rw [← hH4, upd_same]
          have k4 : ∀ b o, H b = some o → b ≠ d → H4 b = some o := fun b o z hb => by rw [← hH4, upd_ne hb]; exact z
          have hx4 := k4 x _ hx hxd
          have hp4 := k4 pa _ hp hpd
          obtain ⟨r', W'⟩ := W.snoc hpr hp0 hpo e1 hroot ec hlt
          have ew := wholeN_snoc (L := L) hpr hroot
          have en : ((kvs ++ [((Sum.inl (p.id : Int) : Key), V.ref pa)]).length : Int) = ((L.length + 1 : Nat) : Int) := by
            rw [List.length_append, hkl]
            rfl
          have fin : ∀ H5 : Hp, H5 x = some (.ins A.cRequest dx (F_Request (.ref d) (.int (wholeN (L ++ [p]) t)))) → (∀ b o, H4 b = some o → b ≠ x → H5 b = some o) → Q (.int ((L.length + 1 : Nat) : Int)) H5 := fun H5 hx5 k5 => by
            have hpx : ∀ b dy fs, H b = some (.ins A.cPiece dy fs) → (∃ p' : Kp189.Piece, fs = F_Piece (.int p'.within) (.int p'.from_) (.int p'.to) (.int p'.kind)) → b ≠ x := fun b dy fs z ⟨p', e⟩ y => by
              rw [y, hx] at z
              have z := Option.some.inj z
              injection z with _ _ z3
              rw [e, F_Request_eq, F_Piece_eq] at z3
              simp at z3
            have hd5 := k5 d _ hd4 (Ne.symm hxd)
            have eks : ∀ {l : List Kp189.Piece} {m : List (Key × V)}, Paired (Entry A H) l m → Paired (Entry A H5) l m := by
              intro l m h
              induction h with
              | nil => exact .nil
              | cons h _ ih =>
                obtain ⟨a1, a2, a3, a4, a5⟩ := h
                exact .cons ⟨a1, a2, a3, a4, k5 _ _ (k4 _ _ a5 (ne_of a5 hd (by intro z; cases z))) (hpx _ _ _ a5 ⟨_, rfl⟩)⟩ ih
            refine q H5 ⟨_, hd5, ⟨dx, hx5⟩, .inl hd5, paired_snoc (eks R.ent) ⟨rfl, pa, rfl, dp, k5 _ _ hp4 (hpx _ _ _ hp ⟨_, rfl⟩)⟩, r', W'⟩ fun b o z hbx hbd => k5 b o (k4 b o z hbd) hbx
          refine ⟨_, rfl, pa, A.cPiece, dp, _, _, rfl, hp4, T.cl_Piece, T.na_Piece_within, F_Piece_within _ _ _ _, rfl, _, rfl, ?_⟩
          by_cases h0 : p.within = 0
          · rw [h0]
            refine iteT ?_
            refine ⟨_, rfl, _, rfl, x, A.cRequest, dx, _, rfl, hx4, T.cl_Request, T.na_Request_whole, F_Request_len _ _, ?_⟩
            rw [F_Request_put_whole]
            refine ⟨_, rfl, x, A.cRequest, dx, _, _, rfl, upd_same, T.cl_Request, T.na_Request_told, F_Request_told _ _, d, _, rfl, (by rw [upd_ne (Ne.symm hxd)]; exact hd4), ?_⟩
            rw [en]
            refine fin _ ?_ fun b o z hb => by rw [upd_ne hb]; exact z
            rw [upd_same, ew, if_pos h0]
          · have z2 : decide (V.int ((p.within : Nat) : Int) = V.int 0) = false := decide_eq_false fun y => h0 (by have := V.int.inj y; omega)
            rw [z2]
            refine iteF ?_
            refine ⟨_, rfl, x, A.cRequest, dx, _, _, rfl, hx4, T.cl_Request, T.na_Request_told, F_Request_told _ _, d, _, rfl, hd4, ?_⟩
            rw [en]
            refine fin _ ?_ fun b o z hb => z
            rw [hx4, ew, if_neg h0]
end
end Tp

set_option Elab.async false
set_option linter.all false
set_option maxRecDepth 100000
set_option maxHeartbeats 2000000
/-! Piece.has_time_between, Stretch, Request.last_one (commit B = 9b99e8e). -/
namespace Tp
open PySem PySem.Spec PyProof.Rows L2
open Tw (WF comes)
/-- a stretch in the heap -/
def StretchAt (A : Adr) (H : Hp) (a : Addr) (x : Kp189.Part) : Prop := ∃ dx, H a = some (.ins A.cStretch dx (F_Stretch (.int x.id) (.int x.from_) (.int x.to)))
theorem StretchAt.same {A : Adr} {H H' : Hp} {a : Addr} {x : Kp189.Part} (h : StretchAt A H a x) (s : Same H H') : StretchAt A H' a x := let ⟨dx, e⟩ := h; ⟨dx, s _ _ e⟩
/-- whether a piece is at work -/
theorem meets_eq {p : Kp189.Piece} {lo hi : Nat} : Kp189.meets lo hi p = (decide ((p.from_ : Int) < hi) && (decide ((lo : Int) < p.to) && (decide ((p.from_ : Int) < p.to) && decide ((lo : Int) < hi)))) := by
  rw [Bool.eq_iff_iff, Tw.meets_iff]
  simp only [Bool.and_eq_true, decide_eq_true_eq]
  omega
/-- of which the least is the last one -/
def rk (hi : Nat) (p : Kp189.Piece) : List Int := [-(if (hi : Int) < p.to then (hi : Int) else p.to), p.from_, p.id]
theorem rk_lt {hi : Nat} {p q : Kp189.Piece} : HT.lexLt (rk hi p) (rk hi q) = Kp189.later hi p q := by
  rw [Bool.eq_iff_iff, Tw.later_iff]
  unfold rk
  rw [HT.lexLt_cons, HT.lexLt_cons, HT.lexLt_cons, HT.lexLt_nil_nil]
  generalize e1 : (if (hi : Int) < p.to then (hi : Int) else p.to) = m1
  generalize e2 : (if (hi : Int) < q.to then (hi : Int) else q.to) = m2
  have f1 : m1 = ((min p.to hi : Nat) : Int) := by rw [← e1]; split <;> omega
  have f2 : m2 = ((min q.to hi : Nat) : Int) := by rw [← e2]; split <;> omega
  rw [f1, f2]
  generalize min p.to hi = a at *
  generalize min q.to hi = b at *
  split
  · split
    · split
      · simp; omega
      · simp only [decide_eq_true_eq]; omega
    · simp only [decide_eq_true_eq]; omega
  · simp only [decide_eq_true_eq]; omega
/-- those right within a piece that have some time there -/
def cands (L : List Kp189.Piece) (t i lo hi : Nat) : List Kp189.Piece := (Kp189.inner L t i).filter (Kp189.meets lo hi)
def sel (i lo hi : Nat) (p : Kp189.Piece) : Bool := decide (p.within = i) && Kp189.meets lo hi p
theorem cands_eq {t : Nat} {L : List Kp189.Piece} {r : Nat → Nat} (W : WF t L r) (i lo hi : Nat) : cands L t i lo hi = L.filter (sel i lo hi) := by
  unfold cands Kp189.inner
  rw [List.filter_filter]
  refine List.filter_congr fun p hp => ?_
  unfold sel
  rw [W.req p hp, beq_self_eq_true, Bool.true_and, Bool.and_comm]
  congr 1
/-- the last one's id, or 0 -/
def lastN (L : List Kp189.Piece) (t i lo hi : Nat) : Nat := match Kp189.lastOf hi (cands L t i lo hi) with
  | some c => c.id
  | none => 0
def sp_Piece_has_time_between (A : Adr) : Sp := fun vs H Q _ => ∃ (a : Addr) (p : Kp189.Piece) (lo hi : Nat), vs = [.ref a, .int lo, .int hi] ∧ PieceAt A H a p ∧ Q (.bl (Kp189.meets lo hi p)) H
def sp_Stretch_init (A : Adr) : Sp := fun vs H Q _ => ∃ (p dx : Addr) (a b c : V), vs = [.ref p, a, b, c] ∧ H p = some (.ins A.cStretch dx []) ∧ Q .non (upd H p (.ins A.cStretch dx (F_Stretch a b c)))
def sp_Stretch_how_long (A : Adr) : Sp := fun vs H Q _ => ∃ (a : Addr) (x : Kp189.Part), vs = [.ref a] ∧ StretchAt A H a x ∧ Q (.int ((x.to : Int) - x.from_)) H
def sp_Request_last_one (A : Adr) : Sp := fun vs H Q _ => ∃ (x d a : Addr) (t : Nat) (L : List Kp189.Piece) (i lo hi : Nat), vs = [.ref x, .ref a] ∧ ReqAt A H x d t L ∧ StretchAt A H a ⟨i, lo, hi⟩ ∧ ∀ H', Same H H' → Q (.int (lastN L t i lo hi)) H'
section
variable {P : Program} {w : World} {K : PySem.W.Frag} {mg : Str → Option Value} {base : Heap} {A : Adr}
theorem G_Piece_has_time_between (T : Txt K mg A) : FnOk P w K mg base CX0 1 A.f_Piece_has_time_between A.d_Piece_has_time_between ["self", "lo", "hi"] (sp_Piece_has_time_between A) := by
  refine T.fn_Piece_has_time_between.ok sc_Piece_has_time_between (fun vs H Q E h => ?_) (fun cdv A' outer s0 H vs Q E hr h => ?_)
  · obtain ⟨a, p, lo, hi, rfl, _⟩ := h
    rfl
  · obtain ⟨a, p, lo, hi, rfl, ⟨dp, hp⟩, q⟩ := h
    refine ⟨_, (pss_one (ps_ret (pe_and (pe_cmpR op_lt (pe_fld (pv 0) rfl) (pv 2) (nomark _)) (pe_and (pe_cmpR op_lt (pv 1) (pe_fld (pv 0) rfl) (nomark _)) (pe_and (pe_cmpR op_lt (pe_fld (pv 0) rfl) (pe_fld (pv 0) rfl) (nomark _)) (pe_one (pe_cmpR op_lt (pv 1) (pv 2) (nomark _)))))))), ?_⟩
    rw [meets_eq] at q
    refine ⟨_, rfl, a, A.cPiece, dp, _, _, rfl, hp, T.cl_Piece, T.na_Piece_since, F_Piece_since _ _ _ _, _, rfl, _, _, rfl, rfl, _, rfl, ?_⟩
    cases e1 : decide ((p.from_ : Int) < hi) with
    | false =>
      refine iteF ?_
      rw [e1] at q
      exact q
    | true =>
      refine iteT ?_
      rw [e1] at q
      refine ⟨_, rfl, _, rfl, a, A.cPiece, dp, _, _, rfl, hp, T.cl_Piece, T.na_Piece_to, F_Piece_to _ _ _ _, _, _, rfl, rfl, _, rfl, ?_⟩
      cases e2 : decide ((lo : Int) < p.to) with
      | false =>
        refine iteF ?_
        rw [e2] at q
        exact q
      | true =>
        refine iteT ?_
        rw [e2] at q
        refine ⟨_, rfl, a, A.cPiece, dp, _, _, rfl, hp, T.cl_Piece, T.na_Piece_since, F_Piece_since _ _ _ _, _, rfl, a, A.cPiece, dp, _, _, rfl, hp, T.cl_Piece, T.na_Piece_to, F_Piece_to _ _ _ _, _, _, rfl, rfl, _, rfl, ?_⟩
        cases e3 : decide ((p.from_ : Int) < p.to) with
        | false =>
          refine iteF ?_
          rw [e3] at q
          exact q
        | true =>
          refine iteT ?_
          rw [e3] at q
          refine ⟨_, rfl, _, rfl, _, _, rfl, rfl, ?_⟩
          exact q
theorem G_Stretch_init (T : Txt K mg A) : FnOk P w K mg base CX0 1 A.f_Stretch_init A.d_Stretch_init ["self", "piece_id", "lo", "hi"] (sp_Stretch_init A) := by
  refine T.fn_Stretch_init.ok sc_Stretch_init (fun vs H Q E h => ?_) (fun cdv A' outer s H vs Q E hr h => ?_)
  · obtain ⟨p, dx, a, b, c, rfl, _⟩ := h
    rfl
  · obtain ⟨p, dx, a, b, c, rfl, hp, q⟩ := h
    refine ⟨_, (pss_cons (ps_fld (pv 0) (pv 1) rfl)
      (pss_cons (ps_fld (pv 0) (pv 2) rfl)
      (pss_one (ps_fld (pv 0) (pv 3) rfl)))), ?_⟩
    refine ⟨_, rfl, _, rfl, p, A.cStretch, dx, _, rfl, hp, T.cl_Stretch, T.na_Stretch_piece_id, few pl0, ?_⟩
    refine ⟨_, rfl, _, rfl, p, A.cStretch, dx, _, rfl, upd_same, T.cl_Stretch, T.na_Stretch_lo, few (pl pl0), ?_⟩
    refine ⟨_, rfl, _, rfl, p, A.cStretch, dx, _, rfl, upd_same, T.cl_Stretch, T.na_Stretch_hi, few (pl (pl pl0)), ?_⟩
    rw [upd_upd, upd_upd]
    exact q
theorem G_Stretch_how_long (T : Txt K mg A) : FnOk P w K mg base CX0 1 A.f_Stretch_how_long A.d_Stretch_how_long ["self"] (sp_Stretch_how_long A) := by
  refine T.fn_Stretch_how_long.ok sc_Stretch_how_long (fun vs H Q E h => ?_) (fun cdv A' outer s H vs Q E hr h => ?_)
  · obtain ⟨a, x, rfl, _⟩ := h
    rfl
  · obtain ⟨a, x, rfl, ⟨da, ha⟩, q⟩ := h
    refine ⟨_, (pss_one (ps_ret (pe_op op_sub (pe_fld (pv 0) rfl) (pe_fld (pv 0) rfl)))), ?_⟩
    exact ⟨_, rfl, a, A.cStretch, da, _, _, rfl, ha, T.cl_Stretch, T.na_Stretch_hi, F_Stretch_hi _ _ _, _, rfl, a, A.cStretch, da, _, _, rfl, ha, T.cl_Stretch, T.na_Stretch_lo, F_Stretch_lo _ _ _, _, _, rfl, rfl, q⟩
theorem G_Request_last_one (T : Txt K mg A) : FnOk P w K mg base CX0 2 A.f_Request_last_one A.d_Request_last_one ["self", "stretch"] (sp_Request_last_one A) := by
  refine T.fn_Request_last_one.ok sc_Request_last_one (fun vs H Q E h => ?_) (fun cdv A' outer s0 H vs Q E hr h => ?_)
  · obtain ⟨x, d, a, t, L, i, lo, hi, rfl, _⟩ := h
    rfl
  · obtain ⟨x, d, a, t, L, i, lo, hi, rfl, ⟨kvs, hd, R⟩, ⟨da, ha⟩, q⟩ := h
    have hu := hu_of hr
    obtain ⟨dx, hx⟩ := R.obj
    obtain ⟨r, W⟩ := R.wf
    have hxd := R.noteq
    have had : a ≠ d := ne_of ha hd (by intro z; cases z)
    refine ⟨_, (pss_cons (ps_set (i := 2) sc_Request_last_one.nd rfl (Or.inl rfl) (pe_lst pa_nil))
      (pss_cons (ps_lock (ps_for PassesOwn.never rfl (pi_keys (pe_fld (pv 0) rfl)) (pg_name (i := 3) sc_Request_last_one.nd rfl (Or.inl rfl))
      (pss_cons (ps_set (i := 4) sc_Request_last_one.nd rfl (Or.inl rfl) (pe_dget hu (pe_fld (pv 0) rfl) (pv 3) (fun _ _ => rfl)))
        (pss_one (ps_if (PW.pt (pw_and (pt_cmpR op_eq (pe_fld (pv 4) rfl) (pe_fld (pv 1) rfl) (nomark _)) (pw_and1 (pt_val (pe_meth (pv 4) T.cl_Piece T.mt_Piece_has_time_between (G_Piece_has_time_between T) (hr.mono (by decide)) T.bn_Piece_has_time_between .nil pass0 (pa_cons (pe_fld (pv 1) rfl) (pa_cons (pe_fld (pv 1) rfl) pa_nil)))))))
        (pss_one (ps_expr (pe_bm PySem.F.plainAttrs_list PySem.F.slot_list_append PySem.F.type_list_append mt_append (pv 2) (pa_cons (pe_tup (pa_cons (pe_un un_neg (pe_callB (call_min2 rfl) (by rfl) T.b_min PyProof.Rows.boot_min (pa_cons (pe_fld (pv 4) rfl) (pa_cons (pe_fld (pv 1) rfl) pa_nil)))) (pa_cons (pe_fld (pv 4) rfl) (pa_cons (pv 3) pa_nil)))) pa_nil))))
        pss_nil)))))
      (pss_one (ps_ret (pe_ifExp (pt_cmpR op_gt (pe_callB call_len_seq (by rfl) T.b_len PySem.boot_len (pa_cons (pv 2) pa_nil)) pe_int (nomark _)) (pe_ix ix_tup (pe_callB (cr_minT rfl hu) (by rfl) T.b_min PyProof.Rows.boot_min (pa_cons (pv 2) pa_nil)) pe_int (fun _ _ => rfl)) pe_int))))), ?_⟩
    -- ranks = []
    refine ⟨Nat.zero_le _, fun rl hrl => ?_⟩
    have hdr : d ≠ rl := ne_of_none hd hrl
    have hxr : x ≠ rl := ne_of_none hx hrl
    -- for piece_id in self.told
    refine ⟨d, .dK kvs, by rw [upd_ne hdr]; exact hd, trivial, fun od => ?_⟩
    refine ⟨_, rfl, x, A.cRequest, dx, _, _, rfl, by rw [upd_ne hxd, upd_ne hxr]; exact hx, T.cl_Request, T.na_Request_told, F_Request_told _ _, d, od, rfl, .inl ⟨kvs, upd_same, ?_⟩⟩
    refine for_keys (fun idx σ H' => ∃ (ts : List Addr) (v3 v4 : Option V), σ = [some (.ref x), some (.ref a), some (.ref rl), v3, v4] ∧ H' rl = some (.lst (ts.map V.ref)) ∧ Paired (fun t k => H' t = some (.tup (k.map V.int))) ts (((L.take idx).filter (sel i lo hi)).map (rk hi)) ∧
        H' d = some (.frz od (.dK kvs)) ∧ (∀ b o, H b = some o → b ≠ d → H' b = some o) ∧ ts.length ≤ 64)
      ⟨[], none, none, rfl, by rw [upd_ne (Ne.symm hdr), upd_same]; rfl, .nil, upd_same, fun b o z hb => by rw [upd_ne hb, upd_ne (ne_of_none z hrl)]; exact z, Nat.zero_le _⟩ (fun _ _ _ _ h => ?_) (fun idx k v σ H' hk h => ?_) (fun σ H' h => ?_)
    · obtain ⟨ts, v3, v4, _, _, _, h, _⟩ := h
      exact h
    · obtain ⟨ts, v3, v4, rfl, hl, hp, hf, ks, hlen⟩ := h
      obtain ⟨p, hpi, e1, _⟩ := paired_at R.ent hk
      have e1 : k = Sum.inl (p.id : Int) := e1
      subst e1
      have hpL : p ∈ L := List.mem_of_getElem? hpi
      obtain ⟨pa, ev, dp, hpa⟩ := val_some R.ent ((find_eq W p.id).trans (Tw.find_mem W hpL))
      have hx' := ks _ _ hx hxd
      have ha' := ks _ _ ha had
      have hpa' := ks _ _ hpa (ne_of hpa hd (by intro z; cases z))
      have tk := take_snoc hpi
      -- piece = self.told[piece_id]
      refine ⟨_, rfl, x, A.cRequest, dx, _, _, rfl, hx', T.cl_Request, T.na_Request_told, F_Request_told _ _, _, rfl, d, _, rfl, DGet.r (.inr ⟨od, hf⟩) ev, ?_⟩
      -- if piece.within == stretch.piece_id
      refine ⟨_, rfl, pa, A.cPiece, dp, _, _, rfl, hpa', T.cl_Piece, T.na_Piece_within, F_Piece_within _ _ _ _, _, rfl, a, A.cStretch, da, _, _, rfl, ha', T.cl_Stretch, T.na_Stretch_piece_id, F_Stretch_piece_id _ _ _, rfl, _, rfl, ?_⟩
      have no : sel i lo hi p = false → ∃ (ts : List Addr) (v3 v4 : Option V), [some (V.ref x), some (.ref a), some (.ref rl), some (.int (p.id : Int)), some (.ref pa)] = [some (.ref x), some (.ref a), some (.ref rl), v3, v4] ∧ H' rl = some (.lst (ts.map V.ref)) ∧ Paired (fun t k => H' t = some (.tup (k.map V.int))) ts (((L.take (idx + 1)).filter (sel i lo hi)).map (rk hi)) ∧
          H' d = some (.frz od (.dK kvs)) ∧ (∀ b o, H b = some o → b ≠ d → H' b = some o) ∧ ts.length ≤ 64 := fun es => by
        refine ⟨ts, _, _, rfl, hl, ?_, hf, ks, hlen⟩
        rw [tk, List.filter_append, List.filter_cons, if_neg (by rw [es]; decide), List.filter_nil, List.append_nil]
        exact hp
      refine ite2 (fun h0 => ?_) (fun h0 => ?_)
      · have h0 : p.within = i := by
          have : (p.within : Int) = (i : Int) := V.int.inj (of_decide_eq_true h0)
          omega
        refine ⟨_, rfl, pa, dp, _, rfl, hpa', F_Piece_no _ _ _ _ (by decide +kernel) (by decide +kernel) (by decide +kernel) (by decide +kernel), _, rfl, a, A.cStretch, da, _, _, rfl, ha', T.cl_Stretch, T.na_Stretch_lo, F_Stretch_lo _ _ _, _, rfl, a, A.cStretch, da, _, _, rfl, ha', T.cl_Stretch, T.na_Stretch_hi, F_Stretch_hi _ _ _, ?_⟩
        refine ⟨pa, p, lo, hi, rfl, ⟨dp, hpa'⟩, _, rfl, ?_⟩
        cases em : Kp189.meets lo hi p with
        | false =>
          refine iteF (no ?_)
          unfold sel
          rw [em, Bool.and_false]
        | true =>
          refine iteT ?_
          have es : sel i lo hi p = true := by
            unfold sel
            rw [em, decide_eq_true h0]
            rfl
          refine ⟨_, rfl, .inl ⟨rfl, _, SqL.of hl⟩, _, rfl, pa, A.cPiece, dp, _, _, rfl, hpa', T.cl_Piece, T.na_Piece_to, F_Piece_to _ _ _ _, _, rfl, a, A.cStretch, da, _, _, rfl, ha', T.cl_Stretch, T.na_Stretch_hi, F_Stretch_hi _ _ _, _, _, rfl, _, rfl, _, rfl, pa, A.cPiece, dp, _, _, rfl, hpa', T.cl_Piece, T.na_Piece_since, F_Piece_since _ _ _ _, _, rfl, (by show 3 ≤ sizeLine; decide), fun tp htp => ?_⟩
          have hrt : rl ≠ tp := ne_of_none hl htp
          have hlen2 : ts.length < 64 := by
            have h1 := paired_len hp
            have h2 : ((L.take (idx + 1)).filter (sel i lo hi)).length ≤ 64 := Nat.le_trans (List.length_filter_le _ _) (by rw [List.length_take]; exact Nat.le_trans (Nat.min_le_right _ _) W.len)
            rw [tk, List.filter_append, List.filter_cons, if_pos es, List.filter_nil, List.length_append, List.length_singleton] at h2
            rw [List.length_map] at h1
            omega
          refine ⟨rl, _, _, rfl, rfl, by rw [upd_ne hrt]; exact hl, by rw [List.length_map]; exact Nat.lt_trans hlen2 (by decide), ?_⟩
          refine ⟨ts ++ [tp], _, _, rfl, by rw [upd_same, List.map_append]; rfl, ?_, ?_, fun b o z hb => ?_, by rw [List.length_append]; exact hlen2⟩
          · rw [tk, List.filter_append, List.filter_cons, if_pos es, List.filter_nil, List.map_append]
            have keep : ∀ {l : List Addr} {m : List (List Int)}, Paired (fun t k => H' t = some (.tup (k.map V.int))) l m → Paired (fun t k => (upd (upd H' tp (.tup [V.int (-(if (hi : Int) < p.to then (hi : Int) else p.to)), .int p.from_, .int p.id])) rl (.lst (ts.map V.ref ++ [V.ref tp]))) t = some (.tup (k.map V.int))) l m := by
              intro l m h
              induction h with
              | nil => exact .nil
              | cons h _ ih => exact .cons (by rw [upd_ne (ne_of h hl (by intro z; cases z)), upd_ne (ne_of_none h htp)]; exact h) ih
            refine paired_snoc (keep hp) ?_
            rw [upd_ne (Ne.symm hrt), upd_same]
            rfl
          · rw [upd_ne hdr, upd_ne (ne_of_none hf htp)]
            exact hf
          · rw [upd_ne (ne_of_none z hrl), upd_ne (ne_of_none (ks b o z hb) htp)]
            exact ks b o z hb
      · refine iteF (no ?_)
        unfold sel
        rw [decide_eq_false, Bool.false_and]
        intro z
        apply h0
        rw [z]
        exact decide_eq_true rfl
    · obtain ⟨ts, v3, v4, rfl, hl, hp, hf, ks, hlen⟩ := h
      have ek : L.take kvs.length = L := by rw [← paired_len R.ent, List.take_length]
      rw [ek] at hp
      refine ⟨hf, ?_⟩
      have s1 : Same H (upd H' d (.dK kvs)) := fun b o z => by
        by_cases hb : b = d
        · rw [hb, upd_same]
          rw [hb, hd] at z
          exact z
        · rw [upd_ne hb]
          exact ks b o z hb
      have hl1 : (upd H' d (.dK kvs)) rl = some (.lst (ts.map V.ref)) := by rw [upd_ne (Ne.symm hdr)]; exact hl
      have hp1 : Paired (fun t k => SqT K (upd H' d (.dK kvs)) t (k.map V.int)) ts ((L.filter (sel i lo hi)).map (rk hi)) := by
        have : ∀ {l : List Addr} {m : List (List Int)}, Paired (fun t k => H' t = some (.tup (k.map V.int))) l m → Paired (fun t k => SqT K (upd H' d (.dK kvs)) t (k.map V.int)) l m := by
          intro l m h
          induction h with
          | nil => exact .nil
          | cons h _ ih => exact .cons (SqT.of (by rw [upd_ne (ne_of h hf (by intro z; cases z))]; exact h)) ih
        exact this hp
      have hn := pairedLen hp1
      rw [List.length_map] at hn
      refine ⟨_, rfl, rl, _, rfl, .inl (SqL.of hl1), _, _, rfl, rfl, _, rfl, ?_⟩
      rw [List.length_map]
      refine ite2 (fun h0 => ?_) (fun h0 => ?_)
      · have h0 : 0 < ts.length := by
          have := of_decide_eq_true h0
          omega
        refine ⟨_, rfl, rl, ts, _, rfl, SqL.of hl1, hp1, h0, fun j tj kj htj hkj best => ?_⟩
        rw [List.getElem?_map] at hkj
        cases ec : (L.filter (sel i lo hi))[j]? with
        | none => rw [ec] at hkj; cases hkj
        | some c =>
          rw [ec] at hkj
          have hkj : rk hi c = kj := Option.some.inj hkj
          subst hkj
          obtain ⟨k2, f1, f2⟩ := pairedAt hp1 htj
          rw [List.getElem?_map, ec] at f1
          have f1 : rk hi c = k2 := Option.some.inj f1
          subst f1
          refine ⟨tj, _, _, _, rfl, rfl, f2, (rfl : atI ((rk hi c).map V.int) 2 = some (.int (c.id : Int))), ?_⟩
          have el : Kp189.lastOf hi (cands L t i lo hi) = some c := by
            rw [cands_eq W]
            refine Tw.lastOf_is (fun p hp q hq => W.ids p (List.mem_filter.mp hp).1 q (List.mem_filter.mp hq).1) (List.mem_of_getElem? ec) fun y hy => ?_
            rw [← rk_lt]
            exact best _ (List.mem_map_of_mem hy)
          have := q _ s1
          unfold lastN at this
          rw [el] at this
          exact this
      · have h0 : ts.length = 0 := by
          apply Nat.eq_zero_of_not_pos
          intro z
          apply h0
          exact decide_eq_true (by omega)
        have ez : L.filter (sel i lo hi) = [] := List.eq_nil_of_length_eq_zero (by omega)
        have := q _ s1
        unfold lastN at this
        rw [cands_eq W, ez] at this
        exact this
end
end Tp

set_option Elab.async false
set_option linter.all false
set_option maxRecDepth 100000
set_option maxHeartbeats 2000000
/-! Request.parts (commit B = 9b99e8e). -/
namespace Tp
open PySem PySem.Spec PyProof.Rows L2
open Tw (WF comes Back)
/-- a stretch that waits: its piece, from when, till when -/
abbrev Ent := Kp189.Piece × Nat × Nat
def Ent.part (e : Ent) : Kp189.Part := ⟨e.1.id, e.2.1, e.2.2⟩
def Ent.bk (L : List Kp189.Piece) (e : Ent) : List Kp189.Part := Back L e.1 e.2.1 e.2.2
def Ent.wg (L : List Kp189.Piece) (t : Nat) (e : Ent) : Nat := 2 * Tw.wt L t e.1 e.2.1 e.2.2 + 1
def mu (L : List Kp189.Piece) (t : Nat) : List Ent → Nat
  | [] => 0
  | e :: l => e.wg L t + mu L t l
theorem mu_snoc (L : List Kp189.Piece) (t : Nat) (e : Ent) : ∀ l : List Ent, mu L t (l ++ [e]) = mu L t l + e.wg L t
  | [] => by show e.wg L t + 0 = 0 + e.wg L t; omega
  | x :: l => by show x.wg L t + mu L t (l ++ [e]) = x.wg L t + mu L t l + e.wg L t; rw [mu_snoc L t e l]; omega
theorem mu_len (L : List Kp189.Piece) (t : Nat) : ∀ l : List Ent, l.length ≤ mu L t l
  | [] => Nat.le_refl _
  | x :: l => by
    have := mu_len L t l
    show l.length + 1 ≤ (2 * Tw.wt L t x.1 x.2.1 x.2.2 + 1) + mu L t l
    omega
theorem paired_imp {α β : Type} {F G : α → β → Prop} {l : List α} {m : List β} (h : Paired F l m) (i : ∀ a b, F a b → G a b) : Paired G l m := by
  induction h with
  | nil => exact .nil
  | cons r _ ih => exact .cons (i _ _ r) ih
theorem paired_last {α β : Type} {F : α → β → Prop} : ∀ {l : List α} {m : List β}, Paired F l m → l ≠ [] → ∃ l0 a m0 b, l = l0 ++ [a] ∧ m = m0 ++ [b] ∧ Paired F l0 m0 ∧ F a b
  | _, _, .nil, h => absurd rfl h
  | [x], [y], .cons r .nil, _ => ⟨[], x, [], y, rfl, rfl, .nil, r⟩
  | x :: x2 :: l, y :: y2 :: m, .cons r (.cons r2 t), _ => by
    obtain ⟨l0, a, m0, b, e1, e2, p, f⟩ := paired_last (.cons r2 t) (by simp)
    exact ⟨x :: l0, a, y :: m0, b, by rw [e1]; rfl, by rw [e2]; rfl, .cons r p, f⟩
theorem paired_rev {α β : Type} {F : α → β → Prop} {l : List α} {m : List β} (h : Paired F l m) : Paired F l.reverse m.reverse := by
  induction h with
  | nil => exact .nil
  | cons r _ ih => rw [List.reverse_cons, List.reverse_cons]; exact paired_snoc ih r
theorem stretch_lst {A : Adr} {H : Hp} {a l : Addr} {x : Kp189.Part} {vs : List V} (h : StretchAt A H a x) (hl : H l = some (.lst vs)) (o : HO) : StretchAt A (upd H l o) a x :=
  let ⟨dx, e⟩ := h
  ⟨dx, by rw [upd_ne (ne_of e hl (by intro z; cases z))]; exact e⟩
/-- a new instance, its fields set -/
theorem made {H : Hp} {s ds C : Addr} {fs : List (Str × V)} (h1 : H s = none) (h2 : H ds = none) : Same H (upd (upd (upd H ds (.own s)) s (.ins C ds [])) s (.ins C ds fs)) := fun b o z => by
  rw [upd_upd, upd_ne (ne_of_none z h1), upd_ne (ne_of_none z h2)]
  exact z
def sp_Request_parts (A : Adr) : Sp := fun vs H Q _ => ∃ (x d : Addr) (t : Nat) (L : List Kp189.Piece), vs = [.ref x] ∧ ReqAt A H x d t L ∧
  ∀ H' r ps, Same H H' → H r = none → H' r = some (.lst (ps.map V.ref)) → Paired (StretchAt A H') ps (Kp189.path L t) → Q (.ref r) H'
section
variable {A : Adr} {H H' : Hp} {x d : Addr} {t : Nat} {L : List Kp189.Piece}
theorem ReqAt.same (R : ReqAt A H x d t L) (s : Same H H') : ReqAt A H' x d t L := let ⟨kvs, e, R⟩ := R; ⟨kvs, s _ _ e, R.same s⟩
end
/-- what holds ahead of each turn -/
def WInv (A : Adr) (L : List Kp189.Piece) (t : Nat) (p0 : Kp189.Piece) (H : Hp) (x pa wl fl : Addr) (m : Nat) (σ : L2.St) (H' : Hp) : Prop :=
  ∃ (ws fs : List Addr) (E : List Ent) (F : List Kp189.Part) (v4 v5 v6 v7 v8 : Option V), σ = [some (.ref x), some (.ref pa), some (.ref wl), some (.ref fl), v4, v5, v6, v7, v8] ∧ m = mu L t E ∧
    H' wl = some (.lst (ws.map V.ref)) ∧ H' fl = some (.lst (fs.map V.ref)) ∧ Paired (fun a e => StretchAt A H' a (Ent.part e)) ws E ∧ Paired (StretchAt A H') fs F ∧ (∀ e ∈ E, e.1 ∈ L) ∧
    F ++ E.reverse.flatMap (Ent.bk L) = Back L p0 p0.from_ p0.to ∧ mu L t E ≤ 129 ∧ Same H H'
/-- found.append(Stretch(..)) -/
theorem WInv.push {A : Adr} {L : List Kp189.Piece} {t : Nat} {p0 : Kp189.Piece} {H H2 : Hp} {x pa wl fl s ds : Addr} {n : Nat} {ws fs : List Addr} {E : List Ent} {F : List Kp189.Part} {y : Kp189.Part} {v4 v5 v6 v7 v8 : Option V} (hwf : wl ≠ fl) (hfl : H fl = none)
    (hw : H2 wl = some (.lst (ws.map V.ref))) (hf : H2 fl = some (.lst (fs.map V.ref))) (pE : Paired (fun a e => StretchAt A H2 a (Ent.part e)) ws E) (pF : Paired (StretchAt A H2) fs F) (hE : ∀ e ∈ E, e.1 ∈ L) (hs : H2 s = none) (hds : H2 ds = none)
    (eq : (F ++ [y]) ++ E.reverse.flatMap (Ent.bk L) = Back L p0 p0.from_ p0.to) (hmu : mu L t E < n) (hn : n ≤ 129) (sH : Same H H2) :
    ∃ m, m < n ∧ WInv A L t p0 H x pa wl fl m [some (.ref x), some (.ref pa), some (.ref wl), some (.ref fl), v4, v5, v6, v7, v8]
      (upd (upd (upd (upd H2 ds (.own s)) s (.ins A.cStretch ds [])) s (.ins A.cStretch ds (F_Stretch (.int y.id) (.int y.from_) (.int y.to)))) fl (.lst (fs.map V.ref ++ [V.ref s]))) := by
  have m3 := made (C := A.cStretch) (fs := F_Stretch (.int y.id) (.int y.from_) (.int y.to)) hs hds
  have st : StretchAt A (upd (upd (upd H2 ds (.own s)) s (.ins A.cStretch ds [])) s (.ins A.cStretch ds (F_Stretch (.int y.id) (.int y.from_) (.int y.to)))) s y := ⟨ds, upd_same⟩
  generalize upd (upd (upd H2 ds (.own s)) s (.ins A.cStretch ds [])) s (.ins A.cStretch ds (F_Stretch (.int y.id) (.int y.from_) (.int y.to))) = H3 at *
  have f3 := m3 _ _ hf
  refine ⟨_, hmu, ws, fs ++ [s], E, F ++ [y], v4, v5, v6, v7, v8, rfl, rfl, by rw [upd_ne hwf]; exact m3 _ _ hw, by rw [upd_same, List.map_append]; rfl, paired_imp pE fun b z h => stretch_lst (h.same m3) f3 _, paired_snoc (paired_imp pF fun b z h => stretch_lst (h.same m3) f3 _) (stretch_lst st f3 _), hE, eq, by omega, fun b o z => ?_⟩
  rw [upd_ne (ne_of_none z hfl)]
  exact m3 _ _ (sH _ _ z)
section
variable {P : Program} {w : World} {K : PySem.W.Frag} {mg : Str → Option Value} {base : Heap} {A : Adr}
theorem G_Request_parts (T : Txt K mg A) : FnOk P w K mg base CX0 3 A.f_Request_parts A.d_Request_parts ["self"] (sp_Request_parts A) := by
  refine T.fn_Request_parts.ok sc_Request_parts (fun vs H Q E h => ?_) (fun cdv A' outer s0 H vs Q E hr h => ?_)
  · obtain ⟨x, d, t, L, rfl, _⟩ := h
    rfl
  · obtain ⟨x, d, t, L, rfl, RA, q⟩ := h
    obtain ⟨kvs, hd, R⟩ := id RA
    have hu := hu_of hr
    obtain ⟨dx, hx⟩ := R.obj
    obtain ⟨r, W⟩ := R.wf
    refine ⟨_, (pss_cons (ps_if (pt_cmpR op_eq (pe_fld (pv 0) rfl) pe_int (nomark _))
      (pss_one (ps_ret (pe_lst pa_nil)))
      pss_nil)
      (pss_cons (ps_set (i := 1) sc_Request_parts.nd rfl (Or.inl rfl) (pe_dget hu (pe_fld (pv 0) rfl) (pe_fld (pv 0) rfl) (fun _ _ => rfl)))
      (pss_cons (ps_set (i := 2) sc_Request_parts.nd rfl (Or.inl rfl) (pe_lst (pa_cons (pe_make T.mk_Stretch (G_Stretch_init T) (hr.mono (by decide)) rfl T.mg_Stretch T.bn_Stretch_init .nil pass0 (pa_cons (pe_fld (pv 0) rfl) (pa_cons (pe_fld (pv 1) rfl) (pa_cons (pe_fld (pv 1) rfl) pa_nil)))) pa_nil)))
      (pss_cons (ps_set (i := 3) sc_Request_parts.nd rfl (Or.inl rfl) (pe_lst pa_nil))
      (pss_cons (ps_while PassesOwn.never (pt_cmpR op_gt (pe_callB call_len_seq (by rfl) T.b_len PySem.boot_len (pa_cons (pv 2) pa_nil)) pe_int (nomark _))
      (pss_cons (ps_set (i := 4) sc_Request_parts.nd rfl (Or.inl rfl) (pe_bm0 PySem.F.plainAttrs_list PySem.F.slot_list_pop PySem.F.type_list_pop mt_pop (pv 2)))
        (pss_cons (ps_set (i := 5) sc_Request_parts.nd rfl (Or.inl rfl) (pe_meth (pv 0) T.cl_Request T.mt_Request_last_one (G_Request_last_one T) (hr.mono (by decide)) T.bn_Request_last_one .nil pass0 (pa_cons (pv 4) pa_nil)))
        (pss_cons (ps_set (i := 6) sc_Request_parts.nd rfl (Or.inl rfl) (pe_fld (pv 4) rfl))
        (pss_cons (ps_if (pt_cmpR op_ne (pv 5) pe_int (nomark _))
        (pss_cons (ps_set (i := 7) sc_Request_parts.nd rfl (Or.inl rfl) (pe_dget hu (pe_fld (pv 0) rfl) (pv 5) (fun _ _ => rfl)))
          (pss_cons (ps_set (i := 8) sc_Request_parts.nd rfl (Or.inl rfl) (pe_callB (call_max2 rfl) (by rfl) T.b_max PyProof.Rows.boot_max (pa_cons (pe_fld (pv 7) rfl) (pa_cons (pe_fld (pv 4) rfl) pa_nil))))
          (pss_cons (ps_set (i := 6) sc_Request_parts.nd rfl (Or.inl rfl) (pe_callB (call_min2 rfl) (by rfl) T.b_min PyProof.Rows.boot_min (pa_cons (pe_fld (pv 7) rfl) (pa_cons (pe_fld (pv 4) rfl) pa_nil))))
          (pss_cons (ps_expr (pe_bm PySem.F.plainAttrs_list PySem.F.slot_list_append PySem.F.type_list_append mt_append (pv 2) (pa_cons (pe_make T.mk_Stretch (G_Stretch_init T) (hr.mono (by decide)) rfl T.mg_Stretch T.bn_Stretch_init .nil pass0 (pa_cons (pe_fld (pv 4) rfl) (pa_cons (pe_fld (pv 4) rfl) (pa_cons (pv 8) pa_nil)))) pa_nil)))
          (pss_one (ps_expr (pe_bm PySem.F.plainAttrs_list PySem.F.slot_list_append PySem.F.type_list_append mt_append (pv 2) (pa_cons (pe_make T.mk_Stretch (G_Stretch_init T) (hr.mono (by decide)) rfl T.mg_Stretch T.bn_Stretch_init .nil pass0 (pa_cons (pv 5) (pa_cons (pv 8) (pa_cons (pv 6) pa_nil)))) pa_nil))))))))
        pss_nil)
        (pss_one (ps_if (pt_cmpR op_lt (pv 6) (pe_fld (pv 4) rfl) (nomark _))
        (pss_one (ps_expr (pe_bm PySem.F.plainAttrs_list PySem.F.slot_list_append PySem.F.type_list_append mt_append (pv 3) (pa_cons (pe_make T.mk_Stretch (G_Stretch_init T) (hr.mono (by decide)) rfl T.mg_Stretch T.bn_Stretch_init .nil pass0 (pa_cons (pe_fld (pv 4) rfl) (pa_cons (pv 6) (pa_cons (pe_fld (pv 4) rfl) pa_nil)))) pa_nil))))
        pss_nil)))))))
      (pss_one (ps_ret (pe_listrev rfl (by rfl) T.b_list (by rfl) T.b_reversed (pa_cons (pv 3) pa_nil))))))))), ?_⟩
    refine ⟨_, rfl, x, A.cRequest, dx, _, _, rfl, hx, T.cl_Request, T.na_Request_whole, F_Request_whole _ _, rfl, _, rfl, ?_⟩
    cases eroot : Kp189.root L t with
    | none =>
      rw [wholeN_none eroot]
      refine iteT ?_
      refine ⟨Nat.zero_le _, fun rl hrl => ?_⟩
      refine q _ rl [] (Same.new hrl) hrl upd_same ?_
      rw [Tw.path_none eroot]
      exact .nil
    | some p0 =>
      obtain ⟨z1, z2⟩ := wholeN_pos W eroot
      obtain ⟨p0L, p0r, _⟩ := Tw.root_some eroot
      have z3 : decide (V.int ((wholeN L t : Nat) : Int) = V.int 0) = false := decide_eq_false fun y => z2 (by have := V.int.inj y; omega)
      rw [z3]
      refine iteF ?_
      -- whole = self.told[self.whole]
      obtain ⟨pa, ev, dp, hpa⟩ := val_some R.ent ((find_eq W p0.id).trans (Tw.find_mem W p0L))
      rw [← z1] at ev
      refine ⟨_, rfl, x, A.cRequest, dx, _, _, rfl, hx, T.cl_Request, T.na_Request_told, F_Request_told _ _, _, rfl, x, A.cRequest, dx, _, _, rfl, hx, T.cl_Request, T.na_Request_whole, F_Request_whole _ _, d, _, rfl, DGet.r (.inl hd) ev, ?_⟩
      -- waiting = [Stretch(self.whole, whole.since, whole.to)]
      refine ⟨_, rfl, x, A.cRequest, dx, _, _, rfl, hx, T.cl_Request, T.na_Request_whole, F_Request_whole _ _, _, rfl, pa, A.cPiece, dp, _, _, rfl, hpa, T.cl_Piece, T.na_Piece_since, F_Piece_since _ _ _ _, _, rfl, pa, A.cPiece, dp, _, _, rfl, hpa, T.cl_Piece, T.na_Piece_to, F_Piece_to _ _ _ _, ?_⟩
      intro s1 ds1 n1 nd1 ne1
      refine ⟨s1, ds1, _, _, _, rfl, upd_same, rfl, ?_⟩
      have m1 := made (C := A.cStretch) (fs := F_Stretch (.int (wholeN L t)) (.int p0.from_) (.int p0.to)) n1 nd1
      generalize hH1 : upd (upd (upd H ds1 (.own s1)) s1 (.ins A.cStretch ds1 [])) s1 (.ins A.cStretch ds1 (F_Stretch (.int (wholeN L t)) (.int p0.from_) (.int p0.to))) = H1 at m1
      have st1 : StretchAt A H1 s1 (Ent.part (p0, p0.from_, p0.to)) := ⟨ds1, by rw [← hH1, upd_same, z1]; rfl⟩
      refine ⟨(by show 1 ≤ sizeLine; decide), fun wl hwl => ?_⟩
      -- found = []
      refine ⟨Nat.zero_le _, fun fl hfl => ?_⟩
      have hwlH : H wl = none := m1.free hwl
      have m2 : Same H1 (upd H1 wl (.lst [V.ref s1])) := Same.new hwl
      have hflH : H fl = none := m1.free (m2.free hfl)
      have hwf : wl ≠ fl := fun z => by rw [← z, upd_same] at hfl; cases hfl
      have m3 : Same H (upd (upd H1 wl (.lst [V.ref s1])) fl (.lst [])) := m1.trans (m2.trans (Same.new hfl))
      refine ⟨WInv A L t p0 H x pa wl fl,
        ⟨_, [s1], [], [(p0, p0.from_, p0.to)], [], none, none, none, none, none, rfl, rfl, ?_, upd_same, .cons (st1.same (m2.trans (Same.new hfl))) .nil, .nil, ?_, ?_, ?_, m3⟩, ?_⟩
      · rw [upd_ne hwf, upd_same]; rfl
      · intro e he
        rw [List.mem_singleton.mp he]
        exact p0L
      · show Back L p0 p0.from_ p0.to ++ [] = _
        rw [List.append_nil]
      · show 2 * Tw.wt L t p0 p0.from_ p0.to + 1 + 0 ≤ 129
        have := Tw.wt_le W p0 p0.from_ p0.to
        omega
      rintro m σ H' ⟨ws, fs, E, F, v4, v5, v6, v7, v8, rfl, rfl, hw, hf, pE, pF, hE, eq, hmu, sH⟩
      have hFl : F.length ≤ 129 := by
        have h1 := Tw.Back_len W p0r p0.from_ p0.to
        rw [← eq, List.length_append] at h1
        omega
      have hfs := pairedLen pF
      have hws := pairedLen pE
      refine ⟨_, rfl, wl, _, rfl, .inl (SqL.of hw), _, _, rfl, rfl, _, rfl, ?_⟩
      rw [List.length_map]
      refine ite2 (fun h0 => ?_) (fun h0 => ?_)
      · have h0 : ws ≠ [] := fun z => by
          rw [z] at h0
          exact absurd h0 (by decide)
        obtain ⟨ws0, a, E0, e, rfl, rfl, pE0, ⟨da, ha⟩⟩ := paired_last pE h0
        obtain ⟨c0, lo, hi⟩ := e
        have hc0 : c0 ∈ L := hE _ (List.mem_append_right _ List.mem_cons_self)
        have hE0 : ∀ e ∈ E0, e.1 ∈ L := fun e he => hE e (List.mem_append_left _ he)
        rw [List.reverse_append, List.reverse_singleton, List.singleton_append, List.flatMap_cons] at eq
        have ebk : Ent.bk L (c0, lo, hi) = Back L c0 lo hi := rfl
        rw [ebk] at eq
        rw [mu_snoc] at hmu
        have hmuE : mu L t (E0 ++ [(c0, lo, hi)]) = mu L t E0 + (2 * Tw.wt L t c0 lo hi + 1) := mu_snoc L t _ E0
        have hlE0 := mu_len L t E0
        have hl0 := pairedLen pE0
        have hmu : mu L t E0 + (2 * Tw.wt L t c0 lo hi + 1) ≤ 129 := hmu
        refine ⟨_, fun _ _ z => z, ?_⟩
        -- stretch = waiting.pop()
        refine ⟨_, rfl, .inl ⟨rfl, _, SqL.of hw⟩, wl, _, V.ref a, rfl, rfl, hw, ?_, ?_⟩
        · rw [List.map_append, List.length_append]
          simp
        rw [List.map_append, List.map_singleton, List.dropLast_concat]
        have k1 : ∀ b o, H' b = some o → b ≠ wl → (upd H' wl (.lst (ws0.map V.ref))) b = some o := fun b o z hb => by rw [upd_ne hb]; exact z
        have w1 : (upd H' wl (.lst (ws0.map V.ref))) wl = some (.lst (ws0.map V.ref)) := upd_same
        generalize upd H' wl (.lst (ws0.map V.ref)) = H1' at k1 w1
        have sH1 : Same H H1' := fun b o z => k1 b o (sH b o z) (ne_of_none z hwlH)
        have f1 := k1 fl _ hf (Ne.symm hwf)
        have kS1 : ∀ b y, StretchAt A H' b y → StretchAt A H1' b y := fun b y ⟨dy, z⟩ => ⟨dy, k1 _ _ z (ne_of z hw (by intro z; cases z))⟩
        have a1 := kS1 a _ ⟨da, ha⟩
        -- last_id = self.last_one(stretch)
        refine ⟨_, rfl, x, dx, _, rfl, sH1 _ _ hx, F_Request_no _ _ (by decide +kernel) (by decide +kernel), _, rfl, x, d, a, t, L, c0.id, lo, hi, rfl, RA.same sH1, a1, fun H2 s2 => ?_⟩
        have w2 := s2 _ _ w1
        have f2 := s2 _ _ f1
        have sH2 : Same H H2 := sH1.trans s2
        have pE2 : Paired (fun a e => StretchAt A H2 a (Ent.part e)) ws0 E0 := paired_imp pE0 fun b y z => (kS1 _ _ z).same s2
        have pF2 : Paired (StretchAt A H2) fs F := paired_imp pF fun b y z => (kS1 _ _ z).same s2
        obtain ⟨da2, ha2⟩ := a1.same s2
        have ha2 : H2 a = some (.ins A.cStretch da2 (F_Stretch (.int c0.id) (.int lo) (.int hi))) := ha2
        -- own_since = stretch.lo
        refine ⟨_, rfl, a, A.cStretch, da2, _, _, rfl, ha2, T.cl_Stretch, T.na_Stretch_lo, F_Stretch_lo _ _ _, ?_⟩
        refine ⟨_, rfl, rfl, _, rfl, ?_⟩
        have hbe := Tw.Back_eq W (W.req c0 hc0) lo hi
        have ecd : (Kp189.inner L t c0.id).filter (Kp189.meets lo hi) = cands L t c0.id lo hi := rfl
        rw [ecd] at hbe
        cases el : Kp189.lastOf hi (cands L t c0.id lo hi) with
        | none =>
          have en : lastN L t c0.id lo hi = 0 := by unfold lastN; rw [el]
          rw [en]
          rw [el] at hbe
          refine iteF ?_
          refine ⟨_, rfl, _, rfl, a, A.cStretch, da2, _, _, rfl, ha2, T.cl_Stretch, T.na_Stretch_hi, F_Stretch_hi _ _ _, _, _, rfl, rfl, _, rfl, ?_⟩
          refine ite2 (fun h1 => ?_) (fun h1 => ?_)
          · have h1 : lo < hi := by
              have : (lo : Int) < (hi : Int) := of_decide_eq_true h1
              omega
            rw [if_neg (by omega)] at hbe
            dsimp only at hbe
            rw [hbe] at eq
            refine ⟨_, rfl, .inl ⟨rfl, _, SqL.of f2⟩, _, rfl, a, A.cStretch, da2, _, _, rfl, ha2, T.cl_Stretch, T.na_Stretch_piece_id, F_Stretch_piece_id _ _ _, _, rfl, _, rfl, a, A.cStretch, da2, _, _, rfl, ha2, T.cl_Stretch, T.na_Stretch_hi, F_Stretch_hi _ _ _, ?_⟩
            intro s3 ds3 n3 nd3 ne3
            refine ⟨s3, ds3, _, _, _, rfl, upd_same, rfl, ?_⟩
            have m3 := made (C := A.cStretch) (fs := F_Stretch (.int c0.id) (.int lo) (.int hi)) n3 nd3
            refine ⟨fl, _, _, rfl, rfl, m3 _ _ f2, by rw [List.length_map]; exact Nat.lt_of_le_of_lt (by omega : fs.length ≤ 129) (by decide), ?_⟩
            exact WInv.push (y := ⟨c0.id, lo, hi⟩) hwf hflH w2 f2 pE2 pF2 hE0 n3 nd3 (by rw [List.append_assoc]; exact eq) (by omega) (by rw [hmuE]; exact hmu) sH2
          · have h1 : hi ≤ lo := by
              apply Nat.le_of_not_lt
              intro z
              apply h1
              exact decide_eq_true (by show (lo : Int) < (hi : Int); omega)
            rw [if_pos h1] at hbe
            rw [hbe] at eq
            exact ⟨_, by rw [hmuE]; omega, ws0, fs, E0, F, _, _, _, _, _, rfl, rfl, w2, f2, pE2, pF2, hE0, eq, by omega, sH2⟩
        | some c =>
          have en : lastN L t c0.id lo hi = c.id := by unfold lastN; rw [el]
          rw [en]
          rw [el] at hbe
          obtain ⟨hci, hcm⟩ := Tw.last_in el
          obtain ⟨hcL, _, _⟩ := Tw.mem_inner.mp hci
          have hcm := Tw.meets_iff.mp hcm
          have hwt := Tw.wt_last W el (max c.from_ lo) (min c.to hi)
          rw [if_neg (by omega)] at hbe
          dsimp only at hbe
          have z4 : (!decide (V.int ((c.id : Nat) : Int) = V.int 0)) = true := by
            rw [decide_eq_false fun y => W.pos c hcL (by have := V.int.inj y; omega)]
            rfl
          rw [z4]
          refine iteT ?_
          have R2 := R.same sH2
          obtain ⟨pc, evc, dc, hpc⟩ := val_some R2.ent ((find_eq W c.id).trans (Tw.find_mem W hcL))
          -- last = self.told[last_id]
          refine ⟨_, rfl, x, A.cRequest, dx, _, _, rfl, sH2 _ _ hx, T.cl_Request, T.na_Request_told, F_Request_told _ _, _, rfl, d, _, rfl, DGet.r (.inl (sH2 _ _ hd)) evc, ?_⟩
          -- last_since = max(last.since, stretch.lo)
          refine ⟨_, rfl, pc, A.cPiece, dc, _, _, rfl, hpc, T.cl_Piece, T.na_Piece_since, F_Piece_since _ _ _ _, _, rfl, a, A.cStretch, da2, _, _, rfl, ha2, T.cl_Stretch, T.na_Stretch_lo, F_Stretch_lo _ _ _, _, _, rfl, ?_⟩
          have emx : (if (lo : Int) > (c.from_ : Int) then (lo : Int) else (c.from_ : Int)) = ((max c.from_ lo : Nat) : Int) := by split <;> omega
          rw [emx]
          -- own_since = min(last.to, stretch.hi)
          refine ⟨_, rfl, pc, A.cPiece, dc, _, _, rfl, hpc, T.cl_Piece, T.na_Piece_to, F_Piece_to _ _ _ _, _, rfl, a, A.cStretch, da2, _, _, rfl, ha2, T.cl_Stretch, T.na_Stretch_hi, F_Stretch_hi _ _ _, _, _, rfl, ?_⟩
          have emn : (if (hi : Int) < (c.to : Int) then (hi : Int) else (c.to : Int)) = ((min c.to hi : Nat) : Int) := by split <;> omega
          rw [emn]
          generalize max c.from_ lo = mx at *
          generalize min c.to hi = mn at *
          -- waiting.append(..)
          refine ⟨_, rfl, .inl ⟨rfl, _, SqL.of w2⟩, _, rfl, a, A.cStretch, da2, _, _, rfl, ha2, T.cl_Stretch, T.na_Stretch_piece_id, F_Stretch_piece_id _ _ _, _, rfl, a, A.cStretch, da2, _, _, rfl, ha2, T.cl_Stretch, T.na_Stretch_lo, F_Stretch_lo _ _ _, _, rfl, ?_⟩
          intro s3 ds3 n3 nd3 ne3
          refine ⟨s3, ds3, _, _, _, rfl, upd_same, rfl, ?_⟩
          have m3 := made (C := A.cStretch) (fs := F_Stretch (.int c0.id) (.int lo) (.int mx)) n3 nd3
          have st3 : StretchAt A (upd (upd (upd H2 ds3 (.own s3)) s3 (.ins A.cStretch ds3 [])) s3 (.ins A.cStretch ds3 (F_Stretch (.int c0.id) (.int lo) (.int mx)))) s3 (Ent.part (c0, lo, mx)) := ⟨ds3, upd_same⟩
          refine ⟨wl, _, _, rfl, rfl, m3 _ _ w2, by rw [List.length_map]; exact Nat.lt_of_le_of_lt (by omega : ws0.length ≤ 129) (by decide), ?_⟩
          generalize upd (upd (upd H2 ds3 (.own s3)) s3 (.ins A.cStretch ds3 [])) s3 (.ins A.cStretch ds3 (F_Stretch (.int c0.id) (.int lo) (.int mx))) = H3 at *
          have w3 := m3 _ _ w2
          have k4 : ∀ b o, H3 b = some o → b ≠ wl → (upd H3 wl (.lst (ws0.map V.ref ++ [V.ref s3]))) b = some o := fun b o z hb => by rw [upd_ne hb]; exact z
          have w4 : (upd H3 wl (.lst (ws0.map V.ref ++ [V.ref s3]))) wl = some (.lst ((ws0 ++ [s3]).map V.ref)) := by rw [upd_same, List.map_append]; rfl
          have kS4 : ∀ b y, StretchAt A H3 b y → StretchAt A (upd H3 wl (.lst (ws0.map V.ref ++ [V.ref s3]))) b y := fun b y h => stretch_lst h w3 _
          generalize upd H3 wl (.lst (ws0.map V.ref ++ [V.ref s3])) = H4 at *
          have sH4 : Same H H4 := fun b o z => k4 b o (m3 _ _ (sH2 _ _ z)) (ne_of_none z hwlH)
          have f4 := k4 _ _ (m3 _ _ f2) (Ne.symm hwf)
          have pE4 : Paired (fun a e => StretchAt A H4 a (Ent.part e)) (ws0 ++ [s3]) (E0 ++ [(c0, lo, mx)]) := paired_snoc (paired_imp pE2 fun b y h => kS4 _ _ (h.same m3)) (kS4 _ _ st3)
          have pF4 : Paired (StretchAt A H4) fs F := paired_imp pF2 fun b y h => kS4 _ _ (h.same m3)
          obtain ⟨da4, ha4⟩ := kS4 a ⟨c0.id, lo, hi⟩ ⟨da2, m3 _ _ ha2⟩
          -- waiting.append(..)
          refine ⟨_, rfl, .inl ⟨rfl, _, SqL.of w4⟩, _, rfl, _, rfl, _, rfl, ?_⟩
          intro s5 ds5 n5 nd5 ne5
          refine ⟨s5, ds5, _, _, _, rfl, upd_same, rfl, ?_⟩
          have m5 := made (C := A.cStretch) (fs := F_Stretch (.int c.id) (.int mx) (.int mn)) n5 nd5
          have st5 : StretchAt A (upd (upd (upd H4 ds5 (.own s5)) s5 (.ins A.cStretch ds5 [])) s5 (.ins A.cStretch ds5 (F_Stretch (.int c.id) (.int mx) (.int mn)))) s5 (Ent.part (c, mx, mn)) := ⟨ds5, upd_same⟩
          refine ⟨wl, _, _, rfl, rfl, m5 _ _ w4, by rw [List.length_map, List.length_append]; exact Nat.lt_of_le_of_lt (by show ws0.length + 1 ≤ 130; omega) (by decide), ?_⟩
          generalize upd (upd (upd H4 ds5 (.own s5)) s5 (.ins A.cStretch ds5 [])) s5 (.ins A.cStretch ds5 (F_Stretch (.int c.id) (.int mx) (.int mn))) = H5 at *
          have w5 := m5 _ _ w4
          have k6 : ∀ b o, H5 b = some o → b ≠ wl → (upd H5 wl (.lst ((ws0 ++ [s3]).map V.ref ++ [V.ref s5]))) b = some o := fun b o z hb => by rw [upd_ne hb]; exact z
          have w6 : (upd H5 wl (.lst ((ws0 ++ [s3]).map V.ref ++ [V.ref s5]))) wl = some (.lst (((ws0 ++ [s3]) ++ [s5]).map V.ref)) := by rw [upd_same]; simp only [List.map_append, List.map_cons, List.map_nil]
          have kS6 : ∀ b y, StretchAt A H5 b y → StretchAt A (upd H5 wl (.lst ((ws0 ++ [s3]).map V.ref ++ [V.ref s5]))) b y := fun b y h => stretch_lst h w5 _
          generalize upd H5 wl (.lst ((ws0 ++ [s3]).map V.ref ++ [V.ref s5])) = H6 at *
          have sH6 : Same H H6 := fun b o z => k6 b o (m5 _ _ (sH4 _ _ z)) (ne_of_none z hwlH)
          have f6 := k6 _ _ (m5 _ _ f4) (Ne.symm hwf)
          have pE6 : Paired (fun a e => StretchAt A H6 a (Ent.part e)) ((ws0 ++ [s3]) ++ [s5]) ((E0 ++ [(c0, lo, mx)]) ++ [(c, mx, mn)]) := paired_snoc (paired_imp pE4 fun b y h => kS6 _ _ (h.same m5)) (kS6 _ _ st5)
          have pF6 : Paired (StretchAt A H6) fs F := paired_imp pF4 fun b y h => kS6 _ _ (h.same m5)
          obtain ⟨da6, ha6⟩ := kS6 a ⟨c0.id, lo, hi⟩ ⟨da4, m5 _ _ ha4⟩
          have ha6 : H6 a = some (.ins A.cStretch da6 (F_Stretch (.int c0.id) (.int lo) (.int hi))) := ha6
          have hE6 : ∀ e ∈ (E0 ++ [(c0, lo, mx)]) ++ [(c, mx, mn)], e.1 ∈ L := fun e he => by
            rcases List.mem_append.mp he with h | h
            · rcases List.mem_append.mp h with h | h
              · exact hE0 e h
              · rw [List.mem_singleton.mp h]; exact hc0
            · rw [List.mem_singleton.mp h]; exact hcL
          have hmu6 : mu L t ((E0 ++ [(c0, lo, mx)]) ++ [(c, mx, mn)]) < mu L t (E0 ++ [(c0, lo, hi)]) := by
            rw [mu_snoc, mu_snoc, hmuE]
            show mu L t E0 + (2 * Tw.wt L t c0 lo mx + 1) + (2 * Tw.wt L t c mx mn + 1) < _
            omega
          have hmuE2 : mu L t (E0 ++ [(c0, lo, hi)]) ≤ 129 := by rw [hmuE]; exact hmu
          have erest : ((E0 ++ [(c0, lo, mx)]) ++ [(c, mx, mn)]).reverse.flatMap (Ent.bk L) = Back L c mx mn ++ (Back L c0 lo mx ++ E0.reverse.flatMap (Ent.bk L)) := by
            rw [List.reverse_append, List.reverse_singleton, List.singleton_append, List.flatMap_cons, List.reverse_append, List.reverse_singleton, List.singleton_append, List.flatMap_cons]
            rfl
          rw [hbe] at eq
          refine ⟨_, rfl, _, rfl, a, A.cStretch, da6, _, _, rfl, ha6, T.cl_Stretch, T.na_Stretch_hi, F_Stretch_hi _ _ _, _, _, rfl, rfl, _, rfl, ?_⟩
          refine ite2 (fun h1 => ?_) (fun h1 => ?_)
          · have h1 : mn < hi := by
              have : (mn : Int) < (hi : Int) := of_decide_eq_true h1
              omega
            rw [if_pos h1] at eq
            refine ⟨_, rfl, .inl ⟨rfl, _, SqL.of f6⟩, _, rfl, a, A.cStretch, da6, _, _, rfl, ha6, T.cl_Stretch, T.na_Stretch_piece_id, F_Stretch_piece_id _ _ _, _, rfl, _, rfl, a, A.cStretch, da6, _, _, rfl, ha6, T.cl_Stretch, T.na_Stretch_hi, F_Stretch_hi _ _ _, ?_⟩
            intro s7 ds7 n7 nd7 ne7
            refine ⟨s7, ds7, _, _, _, rfl, upd_same, rfl, ?_⟩
            have m7 := made (C := A.cStretch) (fs := F_Stretch (.int c0.id) (.int mn) (.int hi)) n7 nd7
            refine ⟨fl, _, _, rfl, rfl, m7 _ _ f6, by rw [List.length_map]; exact Nat.lt_of_le_of_lt (by omega : fs.length ≤ 129) (by decide), ?_⟩
            refine WInv.push (y := ⟨c0.id, mn, hi⟩) hwf hflH w6 f6 pE6 pF6 hE6 n7 nd7 ?_ hmu6 hmuE2 sH6
            rw [erest, ← eq]
            simp only [List.append_assoc]
          · have h1 : ¬ mn < hi := by
              intro z
              apply h1
              exact decide_eq_true (by show (mn : Int) < (hi : Int); omega)
            rw [if_neg h1] at eq
            refine ⟨_, hmu6, _, fs, _, F, _, _, _, _, _, rfl, rfl, w6, f6, pE6, pF6, hE6, ?_, by omega, sH6⟩
            rw [erest, ← eq]
            simp only [List.append_assoc, List.nil_append]
      · have h0 : ws = [] := by
          cases ws with
          | nil => rfl
          | cons y l =>
            exfalso
            apply h0
            exact decide_eq_true (by show (0 : Int) < ((y :: l).length : Int); rw [List.length_cons]; omega)
        subst h0
        cases pE
        have eq : F ++ [] = Back L p0 p0.from_ p0.to := eq
        rw [List.append_nil] at eq
        subst eq
        refine ⟨_, rfl, fl, _, rfl, SqL.of hf, fun rr hrr => ?_⟩
        have s9 : Same H' (upd H' rr (.lst (fs.map V.ref).reverse)) := Same.new hrr
        refine q _ rr fs.reverse (sH.trans s9) (sH.free hrr) (by rw [upd_same, List.map_reverse]) ?_
        rw [Tw.path_Back eroot]
        exact paired_rev (paired_imp pF fun b y h => h.same s9)
end
end Tp

set_option Elab.async false
set_option linter.all false
set_option maxRecDepth 100000
set_option maxHeartbeats 2000000
/-! Request.path, time, time_of_kind (commit B = 9b99e8e). -/
namespace Tp
open PySem PySem.Spec PyProof.Rows L2
open Tw (WF comes Back)
def three (x : Kp189.Part) : List Nat := [x.id, x.from_, x.to]
def pathAns (L : List Kp189.Piece) (t : Nat) : List Int := match Kp189.root L t with
  | none => [-2]
  | some _ => ((Kp189.path L t).length : Int) :: Kp189Neutral.outs ((Kp189.path L t).flatMap three)
def timeAns (L : List Kp189.Piece) (t i : Nat) : Int := match Kp189.root L t, Kp189.find L t i with
  | some _, some _ => ((Kp189.timeOf L t i : Nat) : Int)
  | _, _ => -2
theorem len_three : ∀ l : List Kp189.Part, (l.flatMap three).length = 3 * l.length
  | [] => rfl
  | x :: l => by
    rw [List.flatMap_cons, List.length_append, len_three l, List.length_cons]
    show 3 + _ = _
    omega
theorem pathAns_len {t : Nat} {L : List Kp189.Piece} {r : Nat → Nat} (W : WF t L r) : (pathAns L t).length ≤ 400 := by
  unfold pathAns
  split
  · decide
  · have := Tw.path_len W
    rw [List.length_cons]
    unfold Kp189Neutral.outs
    rw [List.length_map, len_three]
    omega
theorem outs_append (a b : List Nat) : Kp189Neutral.outs (a ++ b) = Kp189Neutral.outs a ++ Kp189Neutral.outs b := List.map_append
/-- how long, as ints -/
def lenI (y : Kp189.Part) : Int := (y.to : Int) - y.from_
theorem sum_lenI : ∀ l : List Kp189.Part, (∀ y ∈ l, y.from_ < y.to) → (l.map lenI).sum = ((Kp189.sum (l.map Kp189.length) : Nat) : Int)
  | [], _ => rfl
  | x :: l, h => by
    rw [List.map_cons, List.map_cons, List.sum_cons, Tw.sum_cons, sum_lenI l fun y hy => h y (List.mem_cons_of_mem _ hy)]
    have := h x List.mem_cons_self
    unfold lenI Kp189.length
    omega
theorem path_fwd {t : Nat} {L : List Kp189.Piece} {r : Nat → Nat} (W : WF t L r) {y : Kp189.Part} (h : y ∈ Kp189.path L t) : y.from_ < y.to := by
  cases e : Kp189.root L t with
  | none => rw [Tw.path_none e] at h; cases h
  | some p =>
    rw [Tw.path_Back e, List.mem_reverse] at h
    exact (Tw.back_fwd W 256 p _ _ (Tw.root_some e).2.1 y h).1
theorem flatMap_snoc {α β : Type} (f : α → List β) (l : List α) (x : α) : (l ++ [x]).flatMap f = l.flatMap f ++ f x := by
  rw [List.flatMap_append, List.flatMap_cons, List.flatMap_nil, List.append_nil]
def sp_Request_path (A : Adr) : Sp := fun vs H Q _ => ∃ (x d : Addr) (t : Nat) (L : List Kp189.Piece), vs = [.ref x] ∧ ReqAt A H x d t L ∧ ∀ H' r, Same H H' → H r = none → H' r = some (.lst ((pathAns L t).map V.int)) → Q (.ref r) H'
def sp_Request_time (A : Adr) : Sp := fun vs H Q _ => ∃ (x d : Addr) (t : Nat) (L : List Kp189.Piece) (i : Nat), vs = [.ref x, .int i] ∧ ReqAt A H x d t L ∧ ∀ H', Same H H' → Q (.int (timeAns L t i)) H'
def sp_Request_time_of_kind (A : Adr) : Sp := fun vs H Q _ => ∃ (x d : Addr) (t : Nat) (L : List Kp189.Piece) (k : Nat), vs = [.ref x, .int k] ∧ ReqAt A H x d t L ∧ ∀ H', Same H H' → Q (.int (Tw.kindIn L t k)) H'
section
variable {P : Program} {w : World} {K : PySem.W.Frag} {mg : Str → Option Value} {base : Heap} {A : Adr}
theorem G_Request_path (T : Txt K mg A) : FnOk P w K mg base CX0 4 A.f_Request_path A.d_Request_path ["self"] (sp_Request_path A) := by
  refine T.fn_Request_path.ok sc_Request_path (fun vs H Q E h => ?_) (fun cdv A' outer s0 H vs Q E hr h => ?_)
  · obtain ⟨x, d, t, L, rfl, _⟩ := h
    rfl
  · obtain ⟨x, d, t, L, rfl, RA, q⟩ := h
    obtain ⟨kvs, hd, R⟩ := id RA
    obtain ⟨dx, hx⟩ := R.obj
    obtain ⟨r, W⟩ := R.wf
    refine ⟨_, (pss_cons (ps_if (pt_cmpR op_eq (pe_fld (pv 0) rfl) pe_int (nomark _))
      (pss_one (ps_ret (pe_lst (pa_cons (pe_globE rfl T.k_NOT_TOLD) pa_nil))))
      pss_nil)
      (pss_cons (ps_set (i := 1) sc_Request_path.nd rfl (Or.inl rfl) (pe_meth0 (pv 0) T.cl_Request T.mt_Request_parts (G_Request_parts T) (hr.mono (by decide)) T.bn_Request_parts .nil pass0))
      (pss_cons (ps_set (i := 2) sc_Request_path.nd rfl (Or.inl rfl) (pe_lst (pa_cons (pe_callB call_len_seq (by rfl) T.b_len PySem.boot_len (pa_cons (pv 1) pa_nil)) pa_nil)))
      (pss_cons (ps_for PassesOwn.never rfl (pi_list (pv 1)) (pg_name (i := 3) sc_Request_path.nd rfl (Or.inl rfl))
      (pss_one (ps_expr (pe_bm PySem.F.plainAttrs_list PySem.F.slot_list_extend PySem.F.type_list_extend mt_extend (pv 2) (pa_cons (pe_lst (pa_cons (pe_fld (pv 3) rfl) (pa_cons (pe_fld (pv 3) rfl) (pa_cons (pe_fld (pv 3) rfl) pa_nil)))) pa_nil)))))
      (pss_one (ps_ret (pv 2))))))), ?_⟩
    refine ⟨_, rfl, x, A.cRequest, dx, _, _, rfl, hx, T.cl_Request, T.na_Request_whole, F_Request_whole _ _, rfl, _, rfl, ?_⟩
    cases eroot : Kp189.root L t with
    | none =>
      rw [wholeN_none eroot]
      refine iteT ?_
      refine ⟨(by show 1 ≤ sizeLine; decide), fun rl hrl => ?_⟩
      refine q _ rl (Same.new hrl) hrl ?_
      unfold pathAns
      rw [upd_same, eroot]
      rfl
    | some p0 =>
      obtain ⟨z1, z2⟩ := wholeN_pos W eroot
      have z3 : decide (V.int ((wholeN L t : Nat) : Int) = V.int 0) = false := decide_eq_false fun y => z2 (by have := V.int.inj y; omega)
      rw [z3]
      refine iteF ?_
      -- parts = self.parts()
      refine ⟨_, rfl, x, dx, _, rfl, hx, F_Request_no _ _ (by decide +kernel) (by decide +kernel), x, d, t, L, rfl, RA, fun H1 pl ps s1 npl hpl pp => ?_⟩
      have hlen := pairedLen pp
      have hpl129 := Tw.path_len W
      -- answered = [len(parts)]
      refine ⟨_, rfl, pl, _, rfl, .inl (SqL.of hpl), (by show 1 ≤ sizeLine; decide), fun al hal => ?_⟩
      have hpa : pl ≠ al := ne_of_none hpl hal
      have halH : H al = none := s1.free hal
      rw [List.length_map, hlen]
      refine ⟨_, rfl, pl, rfl, ⟨_, SqL.of (by rw [upd_ne hpa]; exact hpl)⟩, ?_⟩
      refine for_list (xs := ps.map V.ref) (fun i σ H' => ∃ (v3 : Option V), σ = [some (.ref x), some (.ref pl), some (.ref al), v3] ∧ H' al = some (.lst ((((Kp189.path L t).length : Int) :: Kp189Neutral.outs (((Kp189.path L t).take i).flatMap three)).map V.int)) ∧ Same H1 H')
        ⟨none, rfl, upd_same, Same.new hal⟩ (fun i σ H' _ h => ?_) (fun i v σ H' hv h => ?_) (fun σ H' h => ?_)
      · obtain ⟨_, _, _, s2⟩ := h
        exact SqL.of (s2 _ _ hpl)
      · obtain ⟨v3, rfl, ha, s2⟩ := h
        obtain ⟨pa, hpa', rfl⟩ := map_at hv
        obtain ⟨y, hy, dy, hyh⟩ := pairedAt pp hpa'
        have hy2 := s2 _ _ hyh
        have tk := take_snoc hy
        refine ⟨_, rfl, .inl ⟨rfl, _, SqL.of ha⟩, _, rfl, pa, A.cStretch, dy, _, _, rfl, hy2, T.cl_Stretch, T.na_Stretch_piece_id, F_Stretch_piece_id _ _ _, _, rfl, pa, A.cStretch, dy, _, _, rfl, hy2, T.cl_Stretch, T.na_Stretch_lo, F_Stretch_lo _ _ _, _, rfl, pa, A.cStretch, dy, _, _, rfl, hy2, T.cl_Stretch, T.na_Stretch_hi, F_Stretch_hi _ _ _, (by show 3 ≤ sizeLine; decide), fun el hel => ?_⟩
        have hae : al ≠ el := ne_of_none ha hel
        refine ⟨al, el, _, _, rfl, rfl, by rw [upd_ne hae]; exact ha, upd_same, ?_, ?_⟩
        · rw [List.length_map, List.length_cons]
          unfold Kp189Neutral.outs
          rw [List.length_map, len_three, List.length_take]
          show 3 * min i (Kp189.path L t).length + 1 + 3 ≤ sizeLine
          exact Nat.le_trans (by omega : _ ≤ 400) (by decide)
        · refine ⟨_, rfl, ?_, fun b o z => ?_⟩
          · rw [upd_same, tk, flatMap_snoc, outs_append, ← List.cons_append, List.map_append]
            rfl
          · rw [upd_ne (ne_of_none z hal), upd_ne (ne_of_none (s2 _ _ z) hel)]
            exact s2 _ _ z
      · obtain ⟨v3, rfl, ha, s2⟩ := h
        refine ⟨_, rfl, ?_⟩
        refine q H' al (s1.trans s2) halH ?_
        unfold pathAns
        rw [eroot, ha, List.length_map, hlen, List.take_length]
theorem G_Request_time (T : Txt K mg A) : FnOk P w K mg base CX0 4 A.f_Request_time A.d_Request_time ["self", "piece_id"] (sp_Request_time A) := by
  refine T.fn_Request_time.ok sc_Request_time (fun vs H Q E h => ?_) (fun cdv A' outer s0 H vs Q E hr h => ?_)
  · obtain ⟨x, d, t, L, i, rfl, _⟩ := h
    rfl
  · obtain ⟨x, d, t, L, i, rfl, RA, q⟩ := h
    obtain ⟨kvs, hd, R⟩ := id RA
    have hu := hu_of hr
    obtain ⟨dx, hx⟩ := R.obj
    obtain ⟨r, W⟩ := R.wf
    refine ⟨_, (pss_cons (ps_if (PW.pt (pw_or (pt_cmpR op_eq (pe_fld (pv 0) rfl) pe_int (nomark _)) (pw_or1 (pt_cmp (pc_dnotin hu (pv 1) (pe_fld (pv 0) rfl))))))
      (pss_one (ps_ret (pe_globE rfl T.k_NOT_TOLD)))
      pss_nil)
      (pss_one (ps_ret (pe_callB (cr_sum rfl) (by rfl) T.b_sum PyProof.Rows.boot_sum (pa_cons (pe_lc (own := [("part", 2)]) rfl sc_Request_time.nd (pi_list (pe_meth0 (pv 0) T.cl_Request T.mt_Request_parts (G_Request_parts T) (hr.mono (by decide)) T.bn_Request_parts .nil pass0)) (blk_of (N := ["self", "piece_id", "part"]) (sc := defScope s_Request_time) ⟨rfl, by decide +kernel, by decide +kernel, by decide +kernel, by decide +kernel⟩ rfl rfl) (fun _ _ _ _ _ => (pg_name (i := 2) sc_Request_time.nd rfl (Or.inl rfl))) (fun _ _ _ _ _ => (pts_one (pt_cmpR op_eq (pe_fldK (K := K) rfl (pv 2) rfl) (pv 1) (nomark _)))) (fun _ _ _ _ _ => (pe_meth0 (pv 2) T.cl_Stretch T.mt_Stretch_how_long (G_Stretch_how_long T) (hr.mono (by decide)) T.bn_Stretch_how_long .nil pass0))) pa_nil))))), ?_⟩
    refine ⟨_, rfl, x, A.cRequest, dx, _, _, rfl, hx, T.cl_Request, T.na_Request_whole, F_Request_whole _ _, rfl, _, rfl, ?_⟩
    cases eroot : Kp189.root L t with
    | none =>
      rw [wholeN_none eroot]
      refine iteT (iteT ?_)
      unfold timeAns at q
      rw [eroot] at q
      exact q H (Same.refl H)
    | some p0 =>
      obtain ⟨z1, z2⟩ := wholeN_pos W eroot
      have z3 : decide (V.int ((wholeN L t : Nat) : Int) = V.int 0) = false := decide_eq_false fun y => z2 (by have := V.int.inj y; omega)
      rw [z3]
      refine iteF ?_
      refine ⟨_, rfl, _, rfl, x, A.cRequest, dx, _, _, rfl, hx, T.cl_Request, T.na_Request_told, F_Request_told _ _, d, _, rfl, DGet.r (.inl hd) rfl, _, rfl, ?_⟩
      rcases R.val i with ⟨e1, e2⟩ | ⟨p1, a1, e1, e2, _⟩
      · rw [e2]
        refine iteT ?_
        unfold timeAns at q
        rw [eroot, e1] at q
        exact q H (Same.refl H)
      · rw [e2]
        refine iteF ?_
        refine ⟨_, rfl, x, dx, _, rfl, hx, F_Request_no _ _ (by decide +kernel) (by decide +kernel), x, d, t, L, rfl, RA, fun H1 pl ps s1 npl hpl pp => ?_⟩
        have hlen := pairedLen pp
        have hpl129 := Tw.path_len W
        refine ⟨pl, rfl, ⟨_, SqL.of hpl⟩, fun D hD => ?_⟩
        have hpD : pl ≠ D := ne_of_none hpl hD
        refine lc_list (xs := ps.map V.ref) (fun j H' => H' = upd H1 D (.lst (((((Kp189.path L t).take j).filter fun y => y.id == i).map lenI).map V.int))) rfl (fun j H' _ e => ?_) (fun j v H' hv e => ?_) (fun H' e => ?_)
        · subst e
          exact SqL.of (by rw [upd_ne hpD]; exact hpl)
        · subst e
          obtain ⟨pa, hpa', rfl⟩ := map_at hv
          obtain ⟨y, hy, dy, hyh⟩ := pairedAt pp hpa'
          have tk := take_snoc hy
          have hy2 : (upd H1 D (.lst (((((Kp189.path L t).take j).filter fun y => y.id == i).map lenI).map V.int))) pa = some (.ins A.cStretch dy (F_Stretch (.int y.id) (.int y.from_) (.int y.to))) := by rw [upd_ne (ne_of_none hyh hD)]; exact hyh
          refine ⟨rfl, _, rfl, pa, A.cStretch, dy, _, _, rfl, hy2, T.cl_Stretch, T.na_Stretch_piece_id, F_Stretch_piece_id _ _ _, _, rfl, rfl, _, rfl, ?_⟩
          refine ite2 (fun h0 => ?_) (fun h0 => ?_)
          · have h0 : (y.id == i) = true := by
              have : (y.id : Int) = (i : Int) := V.int.inj (of_decide_eq_true h0)
              exact beq_iff_eq.mpr (by omega)
            refine ⟨_, rfl, pa, dy, _, rfl, hy2, F_Stretch_no _ _ _ (by decide +kernel) (by decide +kernel) (by decide +kernel), pa, y, rfl, ⟨dy, hy2⟩, _, upd_same, ?_, ?_⟩
            · rw [List.length_map, List.length_map]
              refine Nat.lt_of_le_of_lt (Nat.le_trans (List.length_filter_le _ _) ?_) (by show 129 < sizeLine; decide)
              rw [List.length_take]
              exact Nat.le_trans (Nat.min_le_right _ _) hpl129
            · show _ = _
              rw [upd_upd, tk, List.filter_append, List.filter_cons, if_pos h0, List.filter_nil, List.map_append, List.map_append]
              rfl
          · show _ = _
            rw [tk, List.filter_append, List.filter_cons, if_neg, List.filter_nil, List.append_nil]
            intro z
            apply h0
            exact decide_eq_true (by rw [eq_of_beq z])
        · subst e
          refine ⟨D, _, rfl, SqL.of upd_same, ?_⟩
          rw [List.length_map, hlen, List.take_length, sum_lenI _ fun y hy => path_fwd W (List.mem_filter.mp hy).1]
          unfold timeAns at q
          rw [eroot, e1] at q
          exact q _ (s1.trans (Same.new hD))
theorem G_Request_time_of_kind (T : Txt K mg A) : FnOk P w K mg base CX0 4 A.f_Request_time_of_kind A.d_Request_time_of_kind ["self", "kind"] (sp_Request_time_of_kind A) := by
  refine T.fn_Request_time_of_kind.ok sc_Request_time_of_kind (fun vs H Q E h => ?_) (fun cdv A' outer s0 H vs Q E hr h => ?_)
  · obtain ⟨x, d, t, L, i, rfl, _⟩ := h
    rfl
  · obtain ⟨x, d, t, L, k, rfl, RA, q⟩ := h
    obtain ⟨kvs, hd, R⟩ := id RA
    have hu := hu_of hr
    obtain ⟨dx, hx⟩ := R.obj
    obtain ⟨r, W⟩ := R.wf
    refine ⟨_, (pss_one (ps_ret (pe_callB (cr_sum rfl) (by rfl) T.b_sum PyProof.Rows.boot_sum (pa_cons (pe_lc (own := [("part", 2)]) rfl sc_Request_time_of_kind.nd (pi_list (pe_meth0 (pv 0) T.cl_Request T.mt_Request_parts (G_Request_parts T) (hr.mono (by decide)) T.bn_Request_parts .nil pass0)) (blk_of (N := ["self", "kind", "part"]) (sc := defScope s_Request_time_of_kind) ⟨rfl, by decide +kernel, by decide +kernel, by decide +kernel, by decide +kernel⟩ rfl rfl) (fun _ _ _ _ _ => (pg_name (i := 2) sc_Request_time_of_kind.nd rfl (Or.inl rfl))) (fun _ _ _ _ _ => (pts_one (pt_cmpR op_eq (pe_fldK (K := K) rfl (pe_dget hu (pe_fldK (K := K) rfl (pv 0) rfl) (pe_fldK (K := K) rfl (pv 2) rfl) (fun _ _ => rfl)) rfl) (pv 1) (nomark _)))) (fun _ _ _ _ _ => (pe_meth0 (pv 2) T.cl_Stretch T.mt_Stretch_how_long (G_Stretch_how_long T) (hr.mono (by decide)) T.bn_Stretch_how_long .nil pass0))) pa_nil)))), ?_⟩
    refine ⟨_, rfl, x, dx, _, rfl, hx, F_Request_no _ _ (by decide +kernel) (by decide +kernel), x, d, t, L, rfl, RA, fun H1 pl ps s1 npl hpl pp => ?_⟩
    have hlen := pairedLen pp
    have hpl129 := Tw.path_len W
    refine ⟨pl, rfl, ⟨_, SqL.of hpl⟩, fun D hD => ?_⟩
    have hpD : pl ≠ D := ne_of_none hpl hD
    generalize hf : (fun (x : Kp189.Part) => match Kp189.find L t x.id with
      | some p => p.kind == k
      | none => false) = f
    have hfe : Tw.kindIn L t k = Kp189.sum (((Kp189.path L t).filter f).map Kp189.length) := by rw [← hf]; rfl
    refine lc_list (xs := ps.map V.ref) (fun j H' => H' = upd H1 D (.lst (((((Kp189.path L t).take j).filter f).map lenI).map V.int))) rfl (fun j H' _ e => ?_) (fun j v H' hv e => ?_) (fun H' e => ?_)
    · subst e
      exact SqL.of (by rw [upd_ne hpD]; exact hpl)
    · subst e
      obtain ⟨pa, hpa', rfl⟩ := map_at hv
      obtain ⟨y, hy, dy, hyh⟩ := pairedAt pp hpa'
      have tk := take_snoc hy
      obtain ⟨c, hcL, hcy⟩ := Tw.path_told W (List.mem_of_getElem? hy)
      have hfind := Tw.find_mem W hcL
      rw [hcy] at hfind
      have s2 : Same H1 (upd H1 D (.lst (((((Kp189.path L t).take j).filter f).map lenI).map V.int))) := Same.new hD
      have hy2 := s2 _ _ hyh
      have R2 := R.same (s1.trans s2)
      obtain ⟨pc, evc, dc, hpc⟩ := val_some R2.ent ((find_eq W y.id).trans hfind)
      have hfy : f y = (c.kind == k) := by rw [← hf]; show (match Kp189.find L t y.id with | some p => p.kind == k | none => false) = _; rw [hfind]
      have hx2 := s2 _ _ (s1 _ _ hx)
      refine ⟨rfl, _, rfl, x, A.cRequest, dx, _, _, rfl, hx2, T.cl_Request, T.na_Request_told, F_Request_told _ _, _, rfl, pa, A.cStretch, dy, _, _, rfl, hy2, T.cl_Stretch, T.na_Stretch_piece_id, F_Stretch_piece_id _ _ _, d, _, rfl, DGet.r R2.rd evc, pc, A.cPiece, dc, _, _, rfl, hpc, T.cl_Piece, T.na_Piece_kind, F_Piece_kind _ _ _ _, _, rfl, rfl, _, rfl, ?_⟩
      refine ite2 (fun h0 => ?_) (fun h0 => ?_)
      · have h0 : f y = true := by
          have : (c.kind : Int) = (k : Int) := V.int.inj (of_decide_eq_true h0)
          rw [hfy]
          exact beq_iff_eq.mpr (by omega)
        refine ⟨_, rfl, pa, dy, _, rfl, hy2, F_Stretch_no _ _ _ (by decide +kernel) (by decide +kernel) (by decide +kernel), pa, y, rfl, ⟨dy, hy2⟩, _, upd_same, ?_, ?_⟩
        · rw [List.length_map, List.length_map]
          refine Nat.lt_of_le_of_lt (Nat.le_trans (List.length_filter_le _ _) ?_) (by show 129 < sizeLine; decide)
          rw [List.length_take]
          exact Nat.le_trans (Nat.min_le_right _ _) hpl129
        · show _ = _
          rw [upd_upd, tk, List.filter_append, List.filter_cons, if_pos h0, List.filter_nil, List.map_append, List.map_append]
          rfl
      · show _ = _
        rw [tk, List.filter_append, List.filter_cons, if_neg, List.filter_nil, List.append_nil]
        intro z
        apply h0
        rw [hfy] at z
        exact decide_eq_true (by rw [eq_of_beq z])
    · subst e
      refine ⟨D, _, rfl, SqL.of upd_same, ?_⟩
      rw [List.length_map, hlen, List.take_length, sum_lenI _ fun y hy => path_fwd W (List.mem_filter.mp hy).1]
      rw [hfe] at q
      exact q _ (s1.trans (Same.new hD))
end
end Tp

set_option Elab.async false
set_option linter.all false
set_option maxRecDepth 100000
set_option maxHeartbeats 2000000
/-! All requests together (commit B = 9b99e8e). -/
namespace Tp
open PySem PySem.Spec PyProof.Rows L2
open Tw (WF comes)
structure AllAt (A : Adr) (H : Hp) (x l : Addr) (xs ds : List Addr) (S : List Kp189.Piece) : Prop where
  obj : ∃ dx, H x = some (.ins A.cRequests dx (F_Requests (.ref l)))
  lst : H l = some (.lst (xs.map V.ref))
  lenx : xs.length = 16
  lend : ds.length = 16
  ndx : xs.Nodup
  ndd : ds.Nodup
  at_ : ∀ (t : Nat) (a d : Addr), xs[t]? = some a → ds[t]? = some d → ReqAt A H a d t (Kp189.ofRequest S t)
  req : ∀ p ∈ S, p.request < 16
section
variable {A : Adr} {H H' : Hp} {x l a d : Addr} {xs ds : List Addr} {S S' : List Kp189.Piece} {t : Nat} {L : List Kp189.Piece}
theorem ReqAt.ins (R : ReqAt A H a d t L) : ∃ dx, H a = some (.ins A.cRequest dx (F_Request (.ref d) (.int (wholeN L t)))) := let ⟨_, _, R⟩ := R; R.obj
theorem ReqAt.dict (R : ReqAt A H a d t L) : ∃ kvs, H d = some (.dK kvs) := let ⟨kvs, h, _⟩ := R; ⟨kvs, h⟩
theorem ReqAt.wf (R : ReqAt A H a d t L) : ∃ r, WF t L r := let ⟨_, _, R⟩ := R; R.wf
theorem F_ne (v1 v2 v3 v4 v5 v6 : V) : F_Piece v1 v2 v3 v4 ≠ F_Request v5 v6 := by
  rw [F_Piece_eq, F_Request_eq]
  intro z
  simp at z
/-- another request is changed -/
theorem ReqAt.frame {a' d' : Addr} {t' : Nat} {L' : List Kp189.Piece} (R : ReqAt A H a' d' t' L') (R0 : ReqAt A H a d t L) (ha : a' ≠ a) (hd : d' ≠ d) (k : ∀ b o, H b = some o → b ≠ a → b ≠ d → H' b = some o) : ReqAt A H' a' d' t' L' := by
  obtain ⟨dx0, e0⟩ := R0.ins
  obtain ⟨kvs0, f0⟩ := R0.dict
  obtain ⟨kvs, hdk, R⟩ := R
  obtain ⟨dx, e⟩ := R.obj
  have hd' := k d' _ hdk (ne_of hdk e0 (by intro z; cases z)) hd
  have eks : ∀ {l : List Kp189.Piece} {m : List (Key × V)}, Paired (Entry A H) l m → Paired (Entry A H') l m := by
    intro l m h
    induction h with
    | nil => exact .nil
    | cons h _ ih =>
      obtain ⟨a1, a2, a3, a4, a5⟩ := h
      refine .cons ⟨a1, a2, a3, a4, k _ _ a5 (ne_of a5 e0 fun z => ?_) (ne_of a5 f0 (by intro z; cases z))⟩ ih
      injection z with _ _ z3
      exact F_ne _ _ _ _ _ _ z3
  exact ⟨kvs, hd', ⟨dx, k _ _ e ha (ne_of e f0 (by intro z; cases z))⟩, .inl hd', eks R.ent, R.wf⟩
theorem F_ne1 (v1 v2 v3 : V) : F_Requests v1 ≠ F_Request v2 v3 := by
  rw [F_Requests_eq, F_Request_eq]
  intro z
  simp at z
theorem AllAt.step (B : AllAt A H x l xs ds S) {t0 : Nat} (ha : xs[t0]? = some a) (hd : ds[t0]? = some d) (k : ∀ b o, H b = some o → b ≠ a → b ≠ d → H' b = some o) (RA : ReqAt A H' a d t0 (Kp189.ofRequest S' t0))
    (hS : ∀ t, t ≠ t0 → Kp189.ofRequest S' t = Kp189.ofRequest S t) (hr : ∀ p ∈ S', p.request < 16) : AllAt A H' x l xs ds S' := by
  have R0 := B.at_ t0 a d ha hd
  obtain ⟨dx0, e0⟩ := R0.ins
  obtain ⟨kvs0, f0⟩ := R0.dict
  obtain ⟨dx, e⟩ := B.obj
  refine ⟨⟨dx, k _ _ e (ne_of e e0 fun z => ?_) (ne_of e f0 (by intro z; cases z))⟩, k _ _ B.lst (ne_of B.lst e0 (by intro z; cases z)) (ne_of B.lst f0 (by intro z; cases z)), B.lenx, B.lend, B.ndx, B.ndd, fun t a' d' ha' hd' => ?_, hr⟩
  · injection z with _ _ z3
    exact F_ne1 _ _ _ z3
  · by_cases ht : t = t0
    · subst ht
      have z1 := Option.some.inj (ha'.symm.trans ha)
      have z2 := Option.some.inj (hd'.symm.trans hd)
      subst z1 z2
      exact RA
    · rw [hS t ht]
      exact (B.at_ t a' d' ha' hd').frame R0 (fun z => ht (nd_ix B.ndx ha' (by rw [z]; exact ha))) (fun z => ht (nd_ix B.ndd hd' (by rw [z]; exact hd))) k
theorem AllAt.get (B : AllAt A H x l xs ds S) {t : Nat} (h : t < 16) : ∃ a d, xs[t]? = some a ∧ ds[t]? = some d ∧ ReqAt A H a d t (Kp189.ofRequest S t) := by
  have h1 : t < xs.length := by rw [B.lenx]; exact h
  have h2 : t < ds.length := by rw [B.lend]; exact h
  exact ⟨xs[t], ds[t], List.getElem?_eq_getElem h1, List.getElem?_eq_getElem h2, B.at_ _ _ _ (List.getElem?_eq_getElem h1) (List.getElem?_eq_getElem h2)⟩
theorem Req0 (h1 : ∃ dx, H a = some (.ins A.cRequest dx (F_Request (.ref d) (.int 0)))) (h2 : H d = some (.dK [])) : ReqAt A H a d t [] :=
  ⟨[], h2, h1, .inl h2, .nil, _, WF.nil t⟩
theorem Req0.mp (R : ReqAt A H a d t []) : (∃ dx, H a = some (.ins A.cRequest dx (F_Request (.ref d) (.int 0)))) ∧ H d = some (.dK []) := by
  obtain ⟨kvs, h, R⟩ := R
  have e := R.ent
  cases e
  exact ⟨R.obj, h⟩
end
/-- a tell, by the request that it is of -/
theorem step_tell (S : List Kp189.Piece) (p : Kp189.Piece) (hg : Kp189.good p = true) :
    ∃ S', Kp189.step (some S) (.tell p) = (some S', Kp189.say (tellR (Kp189.ofRequest S p.request) p.request p).2) ∧ Kp189.ofRequest S' p.request = (tellR (Kp189.ofRequest S p.request) p.request p).1 ∧
      (∀ t, t ≠ p.request → Kp189.ofRequest S' t = Kp189.ofRequest S t) ∧ ∀ q ∈ S', q ∈ S ∨ q = p := by
  have e : Kp189.step (some S) (.tell p) = if Kp189.good p = false then (some S, Kp189.say (-22)) else if ((Kp189.find S p.request p.id).isSome || (p.within == 0 && (Kp189.root S p.request).isSome)) = true then (some S, Kp189.say (-17))
      else if Kp189.leads S p.request p.id (Kp189.PIECES + 1) p.within = true then (some S, Kp189.say (-41)) else if Kp189.PIECES ≤ (Kp189.ofRequest S p.request).length then (some S, Kp189.say (-28))
      else (some (S ++ [p]), Kp189.say ((Kp189.ofRequest S p.request).length + 1 : Nat)) := rfl
  rw [e, hg, if_neg (by decide)]
  unfold tellR Tw.comes
  rw [Tw.find_of, Tw.root_of, Tw.leads_of]
  by_cases h1 : ((Kp189.find S p.request p.id).isSome || (p.within == 0 && (Kp189.root S p.request).isSome)) = true
  · rw [if_pos h1, if_pos h1]
    exact ⟨S, rfl, rfl, fun _ _ => rfl, fun _ h => .inl h⟩
  rw [if_neg h1, if_neg h1]
  by_cases h2 : Kp189.leads S p.request p.id (Kp189.PIECES + 1) p.within = true
  · rw [if_pos h2, if_pos h2]
    exact ⟨S, rfl, rfl, fun _ _ => rfl, fun _ h => .inl h⟩
  rw [if_neg h2, if_neg h2]
  by_cases h3 : 64 ≤ (Kp189.ofRequest S p.request).length
  · rw [if_pos (show Kp189.PIECES ≤ _ from h3), if_pos h3]
    exact ⟨S, rfl, rfl, fun _ _ => rfl, fun _ h => .inl h⟩
  rw [if_neg (show ¬ Kp189.PIECES ≤ _ from h3), if_neg h3]
  refine ⟨S ++ [p], rfl, ?_, fun t ht => ?_, fun q hq => ?_⟩
  · rw [Tw.of_snoc, if_pos rfl]
  · rw [Tw.of_snoc, if_neg (Ne.symm ht)]
  · rcases List.mem_append.mp hq with h | h
    · exact .inl h
    · exact .inr (by simpa using h)
/-- the object is ready to be told its list -/
def sp_Requests_begin (A : Adr) : Sp := fun vs H Q _ => ∃ (x dx : Addr) (fs : List (Str × V)), vs = [.ref x] ∧ H x = some (.ins A.cRequests dx fs) ∧ fs.length < 1000 ∧ (∀ v, putF "by_number" v fs = F_Requests v) ∧
  ∀ H' l xs ds, AllAt A H' x l xs ds [] → (∀ b o, H b = some o → b ≠ x → H' b = some o) → (∀ b ∈ l :: (xs ++ ds), H b = none) → Q (.int 0) H'
def sp_Requests_init (A : Adr) : Sp := fun vs H Q _ => ∃ (x dx : Addr), vs = [.ref x] ∧ H x = some (.ins A.cRequests dx []) ∧
  ∀ H' l xs ds, AllAt A H' x l xs ds [] → (∀ b o, H b = some o → b ≠ x → H' b = some o) → (∀ b ∈ l :: (xs ++ ds), H b = none) → Q .non H'
def sp_Requests_tell (A : Adr) : Sp := fun vs H Q _ => ∃ (x l : Addr) (xs ds : List Addr) (S : List Kp189.Piece) (p : Kp189.Piece), vs = [.ref x, .int p.request, .int p.id, .int p.within, .int p.from_, .int p.to, .int p.kind] ∧ AllAt A H x l xs ds S ∧
  ∀ H' S' v, Kp189.step (some S) (.tell p) = (some S', Kp189.say v) → AllAt A H' x l xs ds S' → (∀ b o, H b = some o → b ∉ xs → b ∉ ds → H' b = some o) → Q (.int v) H'
def sp_Requests_apart (A : Adr) : Sp := fun vs H Q _ => ∃ (x l : Addr) (xs ds : List Addr) (S : List Kp189.Piece) (t : Nat), vs = [.ref x, .int t] ∧ AllAt A H x l xs ds S ∧
  ∀ H' v, Kp189.step (some S) (.apart t) = (some S, Kp189.say v) → Same H H' → Q (.int v) H'
section
variable {P : Program} {w : World} {K : PySem.W.Frag} {mg : Str → Option Value} {base : Heap} {A : Adr}
theorem G_Requests_begin (T : Txt K mg A) : FnOk P w K mg base CX0 3 A.f_Requests_begin A.d_Requests_begin ["self"] (sp_Requests_begin A) := by
  refine T.fn_Requests_begin.ok sc_Requests_begin (fun vs H Q E h => ?_) (fun cdv A' outer s0 H vs Q E hr h => ?_)
  · obtain ⟨x, dx, fs, rfl, _⟩ := h
    rfl
  · obtain ⟨x, dx, fs, rfl, hx, hfs, hput, q⟩ := h
    refine ⟨_, (pss_cons (ps_fld (pv 0) (pe_lc (own := [("number", 1)]) rfl sc_Requests_begin.nd (pi_range1 rfl T.b_range (pa_cons (pe_op op_add (pe_globE rfl T.k_LAST_REQUEST) pe_int) pa_nil)) (blk_of (N := ["self", "number"]) (sc := defScope s_Requests_begin) ⟨rfl, by decide +kernel, by decide +kernel, by decide +kernel, by decide +kernel⟩ rfl rfl) (fun _ _ _ _ _ => (pg_name (i := 1) sc_Requests_begin.nd rfl (Or.inl rfl))) (fun _ _ _ _ _ => pts_nil) (fun _ _ _ _ _ => (pe_make0 T.mk_Request (G_Request_init T) (hr.mono (by decide)) rfl T.mg_Request T.bn_Request_init .nil pass0))) rfl)
      (pss_one (ps_ret pe_int))), ?_⟩
    refine ⟨_, _, rfl, rfl, 16, rfl, by decide, by decide, fun D hD => ?_⟩
    refine lc_range (lo := 0) (n := 16) (fun i H' => ∃ xs ds : List Addr, xs.length = i ∧ ds.length = i ∧ H' D = some (.lst (xs.map V.ref)) ∧ xs.Nodup ∧ ds.Nodup ∧ (∀ (t : Nat) (a d : Addr), xs[t]? = some a → ds[t]? = some d → ReqAt A H' a d t []) ∧ Same H H' ∧ ∀ b ∈ xs ++ ds, H b = none ∧ ∃ o, H' b = some o)
      ⟨[], [], rfl, rfl, upd_same, List.nodup_nil, List.nodup_nil, fun t a d h => by simp at h, Same.new hD, fun b h => by simp at h⟩ (fun i H' hi hP => ?_) (fun H' hP => ?_)
    · obtain ⟨xs, ds, lx, ld, hl, nx, nd, hat, hs, hf⟩ := hP
      refine ⟨rfl, ?_⟩
      refine yes_of (iteT ?_)
      intro a da na nda nea
      refine ⟨a, da, rfl, upd_same, fun d hd => ⟨rfl, ?_⟩⟩
      have hda : d ≠ a := fun z => by rw [z, upd_same] at hd; cases hd
      have hdd : d ≠ da := fun z => by rw [z, upd_ne nea, upd_same] at hd; cases hd
      have hdn : H' d = none := by rw [upd_ne hda, upd_ne hdd] at hd; exact hd
      have haD : D ≠ a := ne_of_none hl na
      have hdaD : D ≠ da := ne_of_none hl nda
      have hdD : D ≠ d := ne_of_none hl hdn
      generalize hH2 : upd (upd (upd (upd H' da (.own a)) a (.ins A.cRequest da [])) d (.dK [])) a (.ins A.cRequest da (F_Request (.ref d) (.int 0))) = H2
      have k2 : ∀ b o, H' b = some o → H2 b = some o := fun b o z => by
        rw [← hH2, upd_ne (ne_of_none z na), upd_ne (ne_of_none z hdn), upd_ne (ne_of_none z na), upd_ne (ne_of_none z nda)]
        exact z
      have h2a : H2 a = some (.ins A.cRequest da (F_Request (.ref d) (.int 0))) := by rw [← hH2, upd_same]
      have h2d : H2 d = some (.dK []) := by rw [← hH2, upd_ne hda, upd_same]
      have h2D := k2 _ _ hl
      refine ⟨_, h2D, by rw [List.length_map, lx]; exact Nat.lt_trans hi (by decide), xs ++ [a], ds ++ [d], by rw [List.length_append, lx]; rfl, by rw [List.length_append, ld]; rfl, ?_, ?_, ?_, fun t a' d' ha' hd' => ?_, fun b o z => ?_, fun b hb => ?_⟩
      · rw [upd_same, List.map_append]; rfl
      · exact nd_snoc nx fun m => by
          obtain ⟨_, o, z⟩ := hf a (List.mem_append_left _ m)
          rw [na] at z; cases z
      · exact nd_snoc nd fun m => by
          obtain ⟨_, o, z⟩ := hf d (List.mem_append_right _ m)
          rw [hdn] at z; cases z
      · by_cases ht : t < i
        · rw [List.getElem?_append_left (by rw [lx]; exact ht)] at ha'
          rw [List.getElem?_append_left (by rw [ld]; exact ht)] at hd'
          obtain ⟨⟨dx', e1⟩, e2⟩ := Req0.mp (hat t a' d' ha' hd')
          refine Req0 ⟨dx', ?_⟩ ?_
          · rw [upd_ne (ne_of e1 hl (by intro z; cases z))]; exact k2 _ _ e1
          · rw [upd_ne (ne_of e2 hl (by intro z; cases z))]; exact k2 _ _ e2
        · have hti : t = i := by
            have := (List.getElem?_eq_some_iff.mp ha').1
            rw [List.length_append, lx] at this
            have : t < i + 1 := this
            omega
          subst hti
          rw [List.getElem?_append_right (by omega), lx, Nat.sub_self] at ha'
          rw [List.getElem?_append_right (by omega), ld, Nat.sub_self] at hd'
          have z1 : a = a' := Option.some.inj ha'
          have z2 : d = d' := Option.some.inj hd'
          subst z1 z2
          refine Req0 ⟨da, ?_⟩ ?_
          · rw [upd_ne (Ne.symm haD)]; exact h2a
          · rw [upd_ne (Ne.symm hdD)]; exact h2d
      · rw [upd_ne (ne_of_none z hD)]; exact k2 _ _ (hs b o z)
      · have mem : b ∈ xs ++ ds ∨ b = a ∨ b = d := by
          rcases List.mem_append.mp hb with m | m
          · rcases List.mem_append.mp m with m | m
            · exact .inl (List.mem_append_left _ m)
            · exact .inr (.inl (by simpa using m))
          · rcases List.mem_append.mp m with m | m
            · exact .inl (List.mem_append_right _ m)
            · exact .inr (.inr (by simpa using m))
        have keep : ∀ o, H2 b = some o → ∃ o, (upd H2 D (.lst (xs.map V.ref ++ [V.ref a]))) b = some o := fun o z => by
          by_cases e : b = D
          · exact ⟨_, by rw [e, upd_same]⟩
          · exact ⟨o, by rw [upd_ne e]; exact z⟩
        rcases mem with m | rfl | rfl
        · obtain ⟨z1, o, z2⟩ := hf b m
          exact ⟨z1, keep o (k2 _ _ z2)⟩
        · exact ⟨hs.free na, keep _ h2a⟩
        · exact ⟨hs.free hdn, keep _ h2d⟩
    · obtain ⟨xs, ds, lx, ld, hl, nx, nd, hat, hs, hf⟩ := hP
      have hx' := hs _ _ hx
      refine ⟨_, rfl, x, A.cRequests, dx, fs, rfl, hx', T.cl_Requests, T.na_Requests_by_number, hfs, ?_⟩
      rw [hput]
      have nex : ∀ b, H b = none → b ≠ x := fun b z y => by rw [y, hx] at z; cases z
      have hDx : D ≠ x := nex D hD
      refine q _ D xs ds ⟨⟨dx, upd_same⟩, by rw [upd_ne hDx]; exact hl, lx, ld, nx, nd, fun t a d ha hd => ?_, fun p h => (nomatch h)⟩ (fun b o z hb => by rw [upd_ne hb]; exact hs _ _ z) (fun b hb => ?_)
      · obtain ⟨⟨dx', e1⟩, e2⟩ := Req0.mp (hat t a d ha hd)
        have na := (hf a (List.mem_append_left _ (List.mem_of_getElem? ha))).1
        have nd' := (hf d (List.mem_append_right _ (List.mem_of_getElem? hd))).1
        exact Req0 ⟨dx', by rw [upd_ne (nex a na)]; exact e1⟩ (by rw [upd_ne (nex d nd')]; exact e2)
      · rcases List.mem_cons.mp hb with z | z
        · rw [z]; exact hD
        · exact (hf b z).1
end
end Tp

set_option Elab.async false
set_option linter.all false
set_option maxRecDepth 100000
set_option maxHeartbeats 2000000
/-! Requests.__init__, tell, apart (commit B = 9b99e8e). -/
namespace Tp
open PySem PySem.Spec PyProof.Rows L2
open Tw (WF comes)
section
variable {P : Program} {w : World} {K : PySem.W.Frag} {mg : Str → Option Value} {base : Heap} {A : Adr}
theorem G_Requests_init (T : Txt K mg A) : FnOk P w K mg base CX0 4 A.f_Requests_init A.d_Requests_init ["self"] (sp_Requests_init A) := by
  refine T.fn_Requests_init.ok sc_Requests_init (fun vs H Q E h => ?_) (fun cdv A' outer s0 H vs Q E hr h => ?_)
  · obtain ⟨x, dx, rfl, _⟩ := h
    rfl
  · obtain ⟨x, dx, rfl, hx, q⟩ := h
    refine ⟨_, (pss_one (ps_expr (pe_meth0 (pv 0) T.cl_Requests T.mt_Requests_begin (G_Requests_begin T) (hr.mono (by decide)) T.bn_Requests_begin .nil pass0))), ?_⟩
    exact ⟨_, rfl, x, dx, [], rfl, hx, rfl, x, dx, [], rfl, hx, few pl0, fun v => rfl, fun H' l xs ds hA k f => q H' l xs ds hA k f⟩
theorem good_not {p : Kp189.Piece} (h : 15 < p.request ∨ 63 < p.kind ∨ p.id = 0 ∨ p.within = p.id ∨ p.to < p.from_) : Kp189.good p = false := by
  cases e : Kp189.good p with
  | false => rfl
  | true =>
    exfalso
    unfold Kp189.good Kp189.REQUESTS Kp189.KINDS at e
    simp only [Bool.and_eq_true, decide_eq_true_eq, bne_iff_ne] at e
    omega
theorem good_of {p : Kp189.Piece} (h1 : ¬ 15 < p.request) (h2 : ¬ 63 < p.kind) (h3 : ¬ p.id = 0) (h4 : ¬ p.within = p.id) (h5 : ¬ p.to < p.from_) : Kp189.good p = true := by
  unfold Kp189.good Kp189.REQUESTS Kp189.KINDS
  simp only [Bool.and_eq_true, decide_eq_true_eq, bne_iff_ne]
  omega
theorem step_bad {S : List Kp189.Piece} {p : Kp189.Piece} (h : Kp189.good p = false) : Kp189.step (some S) (.tell p) = (some S, Kp189.say (-22)) := by
  show (if Kp189.good p = false then (some S, Kp189.say (-22)) else _) = _
  rw [if_pos h]
theorem G_Requests_tell (T : Txt K mg A) : FnOk P w K mg base CX0 3 A.f_Requests_tell A.d_Requests_tell ["self", "request", "piece_id", "within", "since", "to", "kind"] (sp_Requests_tell A) := by
  refine T.fn_Requests_tell.ok sc_Requests_tell (fun vs H Q E h => ?_) (fun cdv A' outer s0 H vs Q E hr h => ?_)
  · obtain ⟨x, l, xs, ds, S, p, rfl, _⟩ := h
    rfl
  · obtain ⟨x, l, xs, ds, S, p, rfl, B, q⟩ := h
    have bad : Kp189.good p = false → Q (.int (-22)) H := fun hb => q H S (-22) (step_bad hb) B fun _ _ z _ _ => z
    obtain ⟨dx, hx⟩ := B.obj
    refine ⟨_, (pss_cons (ps_if (PW.pt (pw_or (pt_cmpR op_gt (pv 1) (pe_globE rfl T.k_LAST_REQUEST) (nomark _)) (pw_or1 (pt_cmpR op_gt (pv 6) (pe_globE rfl T.k_LAST_KIND) (nomark _)))))
      (pss_one (ps_ret (pe_globE rfl T.k_WRONG_NUMBER)))
      pss_nil)
      (pss_cons (ps_if (PW.pt (pw_or (pt_cmpR op_eq (pv 2) pe_int (nomark _)) (pw_or (pt_cmpR op_eq (pv 3) (pv 2) (nomark _)) (pw_or1 (pt_cmpR op_gt (pv 4) (pv 5) (nomark _))))))
      (pss_one (ps_ret (pe_globE rfl T.k_WRONG_NUMBER)))
      pss_nil)
      (pss_one (ps_ret (pe_meth (pe_ix ix_list (pe_fld (pv 0) rfl) (pv 1) (fun _ _ => rfl)) T.cl_Request T.mt_Request_tell (G_Request_tell T) (hr.mono (by decide)) T.bn_Request_tell .nil pass0 (pa_cons (pv 2) (pa_cons (pe_make T.mk_Piece (G_Piece_init T) (hr.mono (by decide)) rfl T.mg_Piece T.bn_Piece_init .nil pass0 (pa_cons (pv 3) (pa_cons (pv 4) (pa_cons (pv 5) (pa_cons (pv 6) pa_nil))))) pa_nil))))))), ?_⟩
    refine ⟨_, rfl, _, _, rfl, rfl, _, rfl, ?_⟩
    refine ite2 (fun h1 => ?_) (fun h1 => ?_)
    · refine iteT (bad (good_not ?_))
      have := of_decide_eq_true h1
      omega
    have h1 : ¬ 15 < p.request := fun z => h1 (decide_eq_true (by omega))
    refine ⟨_, rfl, _, _, rfl, rfl, _, rfl, ?_⟩
    refine ite2 (fun h2 => bad (good_not ?_)) (fun h2 => ?_)
    · have := of_decide_eq_true h2
      omega
    have h2 : ¬ 63 < p.kind := fun z => h2 (decide_eq_true (by omega))
    refine ⟨_, rfl, rfl, _, rfl, ?_⟩
    refine ite2 (fun h3 => ?_) (fun h3 => ?_)
    · refine iteT (bad (good_not ?_))
      have := V.int.inj (of_decide_eq_true h3)
      omega
    have h3 : ¬ p.id = 0 := fun z => h3 (decide_eq_true (by rw [z]; rfl))
    refine ⟨_, rfl, _, rfl, rfl, _, rfl, ?_⟩
    refine ite2 (fun h4 => ?_) (fun h4 => ?_)
    · refine iteT (bad (good_not ?_))
      have := V.int.inj (of_decide_eq_true h4)
      omega
    have h4 : ¬ p.within = p.id := fun z => h4 (decide_eq_true (by rw [z]))
    refine ⟨_, rfl, _, rfl, _, _, rfl, rfl, _, rfl, ?_⟩
    refine ite2 (fun h5 => bad (good_not ?_)) (fun h5 => ?_)
    · have := of_decide_eq_true h5
      omega
    have h5 : ¬ p.to < p.from_ := fun z => h5 (decide_eq_true (by omega))
    have hg := good_of h1 h2 h3 h4 h5
    obtain ⟨a, d, ha, hd, R⟩ := B.get (t := p.request) (by omega)
    obtain ⟨da, hin⟩ := R.ins
    refine ⟨_, rfl, x, A.cRequests, dx, _, _, rfl, hx, T.cl_Requests, T.na_Requests_by_number, F_Requests_by_number _, _, rfl, l, _, _, _, rfl, rfl, SqL.of B.lst, atI_nat (v := V.ref a) (by rw [List.getElem?_map, ha]; rfl), a, da, _, rfl, hin, F_Request_no _ _ (by decide +kernel) (by decide +kernel), _, rfl, _, rfl, _, rfl, _, rfl, _, rfl, ?_⟩
    intro pa dp hpa hdp hne
    refine ⟨pa, dp, _, _, _, _, rfl, upd_same, rfl, ?_⟩
    have s1 : Same H (upd (upd (upd H dp (.own pa)) pa (.ins A.cPiece dp [])) pa (.ins A.cPiece dp (F_Piece (.int p.within) (.int p.from_) (.int p.to) (.int p.kind)))) := fun b o z => by
      rw [upd_upd, upd_ne (ne_of_none z hpa), upd_ne (ne_of_none z hdp)]
      exact z
    generalize hH1 : upd (upd (upd H dp (.own pa)) pa (.ins A.cPiece dp [])) pa (.ins A.cPiece dp (F_Piece (.int p.within) (.int p.from_) (.int p.to) (.int p.kind))) = H1 at s1
    have hpa1 : PieceAt A H1 pa p := ⟨dp, by rw [← hH1, upd_same]⟩
    have R1 : ReqAt A H1 a d p.request (Kp189.ofRequest S p.request) := by
      obtain ⟨kvs, e, R⟩ := R
      exact ⟨kvs, s1 _ _ e, R.same s1⟩
    refine ⟨a, d, pa, p.request, Kp189.ofRequest S p.request, p, rfl, R1, hpa1, rfl, h3, by omega, fun H' R2 k => ?_⟩
    obtain ⟨S', e1, e2, e3, e4⟩ := step_tell S p hg
    have k' : ∀ b o, H b = some o → b ≠ a → b ≠ d → H' b = some o := fun b o z z1 z2 => k b o (s1 _ _ z) z1 z2
    refine q H' S' _ e1 (B.step ha hd k' (by rw [e2]; exact R2) e3 fun p' hp' => ?_) fun b o z z1 z2 => k' b o z (fun y => z1 (by rw [y]; exact List.mem_of_getElem? ha)) fun y => z2 (by rw [y]; exact List.mem_of_getElem? hd)
    rcases e4 p' hp' with z | z
    · exact B.req p' z
    · rw [z]; omega
theorem G_Requests_apart (T : Txt K mg A) : FnOk P w K mg base CX0 4 A.f_Requests_apart A.d_Requests_apart ["self", "request"] (sp_Requests_apart A) := by
  refine T.fn_Requests_apart.ok sc_Requests_apart (fun vs H Q E h => ?_) (fun cdv A' outer s0 H vs Q E hr h => ?_)
  · obtain ⟨x, l, xs, ds, S, t, rfl, _⟩ := h
    rfl
  · obtain ⟨x, l, xs, ds, S, t, rfl, B, q⟩ := h
    obtain ⟨dx, hx⟩ := B.obj
    have est : Kp189.step (some S) (.apart t) = (some S, if Kp189.REQUESTS ≤ t then Kp189.say (-22) else Kp189.say ((Kp189.apart S t : Nat) : Int)) := rfl
    refine ⟨_, (pss_cons (ps_if (pt_cmpR op_gt (pv 1) (pe_globE rfl T.k_LAST_REQUEST) (nomark _))
      (pss_one (ps_ret (pe_globE rfl T.k_WRONG_NUMBER)))
      pss_nil)
      (pss_one (ps_ret (pe_meth0 (pe_ix ix_list (pe_fld (pv 0) rfl) (pv 1) (fun _ _ => rfl)) T.cl_Request T.mt_Request_apart (G_Request_apart T) (hr.mono (by decide)) T.bn_Request_apart .nil pass0)))), ?_⟩
    refine ⟨_, rfl, _, _, rfl, rfl, _, rfl, ?_⟩
    refine ite2 (fun h1 => ?_) (fun h1 => ?_)
    · have h1 := of_decide_eq_true h1
      rw [if_pos (show Kp189.REQUESTS ≤ t by show 16 ≤ t; omega)] at est
      exact q H (-22) est (Same.refl H)
    have h1 : ¬ 15 < t := fun z => h1 (decide_eq_true (by omega))
    rw [if_neg (show ¬ Kp189.REQUESTS ≤ t by show ¬ 16 ≤ t; omega)] at est
    obtain ⟨a, d, ha, hd, R⟩ := B.get (t := t) (by omega)
    obtain ⟨da, hin⟩ := R.ins
    refine ⟨_, rfl, x, A.cRequests, dx, _, _, rfl, hx, T.cl_Requests, T.na_Requests_by_number, F_Requests_by_number _, _, rfl, l, _, _, _, rfl, rfl, SqL.of B.lst, atI_nat (v := V.ref a) (by rw [List.getElem?_map, ha]; rfl), a, da, _, rfl, hin, F_Request_no _ _ (by decide +kernel) (by decide +kernel), ?_⟩
    refine ⟨a, d, t, _, rfl, R, fun H' s => ?_⟩
    rw [Tw.apart_of]
    exact q H' _ est s
end
end Tp

set_option Elab.async false
set_option linter.all false
set_option maxRecDepth 100000
set_option maxHeartbeats 2000000
/-! Requests.path, time, time_of_kind, and answer_call (commit B = 9b99e8e). -/
namespace Tp
open PySem PySem.Spec PyProof.Rows L2
open Tw (WF comes)
/-- one call: what it answers, and what lies there then -/
def sp_answer_call (A : Adr) : Sp := fun vs H Q _ => ∃ (x l : Addr) (xs ds : List Addr) (S : List Kp189.Piece) (c : Int) (nl : Addr) (ns : List Int), vs = [.ref x, .int c, .ref nl] ∧ AllAt A H x l xs ds S ∧ H nl = some (.lst (ns.map V.int)) ∧ Kp189Neutral.asked1 [c :: ns] = true ∧
  ∀ H' S' ans al l' xs' ds', Kp189Neutral.step (some S) [c :: ns] = (some S', ans) → ans.length ≤ 400 → AllAt A H' x l' xs' ds' S' → H' al = some (.lst (ans.map V.int)) → H al = none → al ≠ l' → (∀ b o, H b = some o → b ≠ x → b ∉ xs → b ∉ ds → H' b = some o) →
    (∀ b ∈ l' :: (xs' ++ ds'), b ∈ l :: (xs ++ ds) ∨ H b = none) → Q (.ref al) H'
section
variable {A : Adr} {H H' : Hp} {x l g : Addr} {xs ds : List Addr} {S : List Kp189.Piece}
theorem AllAt.same (B : AllAt A H x l xs ds S) (s : Same H H') : AllAt A H' x l xs ds S := by
  obtain ⟨dx, e⟩ := B.obj
  refine ⟨⟨dx, s _ _ e⟩, s _ _ B.lst, B.lenx, B.lend, B.ndx, B.ndd, fun t a d ha hd => ?_, B.req⟩
  obtain ⟨kvs, e, R⟩ := B.at_ t a d ha hd
  exact ⟨kvs, s _ _ e, R.same s⟩
/-- a list that is none of its own has changed -/
theorem AllAt.lstKeep {vs : List V} (B : AllAt A H x l xs ds S) (hg : H g = some (.lst vs)) (hl : l ≠ g) (k : ∀ b o, H b = some o → b ≠ g → H' b = some o) : AllAt A H' x l xs ds S := by
  obtain ⟨dx, e⟩ := B.obj
  refine ⟨⟨dx, k _ _ e (ne_of e hg (by intro z; cases z))⟩, k _ _ B.lst hl, B.lenx, B.lend, B.ndx, B.ndd, fun t a d ha hd => ?_, B.req⟩
  obtain ⟨kvs, e, R⟩ := B.at_ t a d ha hd
  obtain ⟨da, ea⟩ := R.obj
  have e' := k _ _ e (ne_of e hg (by intro z; cases z))
  exact ⟨kvs, e', ⟨da, k _ _ ea (ne_of ea hg (by intro z; cases z))⟩, .inl e', ents_keep (fun b dy fs z => k _ _ z (ne_of z hg (by intro y; cases y))) R.ent, R.wf⟩
theorem AllAt.notlst {vs : List V} {b : Addr} (B : AllAt A H x l xs ds S) (hg : H g = some (.lst vs)) : g ≠ x ∧ g ∉ xs ∧ g ∉ ds := by
  obtain ⟨dx, e⟩ := B.obj
  refine ⟨ne_of hg e (by intro z; cases z), fun m => ?_, fun m => ?_⟩
  · obtain ⟨t, ht, et⟩ := List.getElem_of_mem m
    have ht2 : t < ds.length := by rw [B.lend, ← B.lenx]; exact ht
    obtain ⟨da, ea⟩ := (B.at_ t g _ (List.getElem?_eq_some_iff.mpr ⟨ht, et⟩) (List.getElem?_eq_getElem ht2)).ins
    rw [hg] at ea
    cases ea
  · obtain ⟨t, ht, et⟩ := List.getElem_of_mem m
    have ht2 : t < xs.length := by rw [B.lenx, ← B.lend]; exact ht
    obtain ⟨kvs, ea⟩ := (B.at_ t _ g (List.getElem?_eq_getElem ht2) (List.getElem?_eq_some_iff.mpr ⟨ht, et⟩)).dict
    rw [hg] at ea
    cases ea
end

/-- what lies there is there -/
theorem AllAt.there {A : Adr} {H : Hp} {x l : Addr} {xs ds : List Addr} {S : List Kp189.Piece} (B : AllAt A H x l xs ds S) {b : Addr} (h : b ∈ xs ∨ b ∈ ds) : ∃ o, H b = some o := by
  rcases h with m | m
  · obtain ⟨t, ht, et⟩ := List.getElem_of_mem m
    have ht2 : t < ds.length := by rw [B.lend, ← B.lenx]; exact ht
    obtain ⟨da, ea⟩ := (B.at_ t b _ (List.getElem?_eq_some_iff.mpr ⟨ht, et⟩) (List.getElem?_eq_getElem ht2)).ins
    exact ⟨_, ea⟩
  · obtain ⟨t, ht, et⟩ := List.getElem_of_mem m
    have ht2 : t < xs.length := by rw [B.lenx, ← B.lend]; exact ht
    obtain ⟨kvs, ea⟩ := (B.at_ t _ b (List.getElem?_eq_getElem ht2) (List.getElem?_eq_some_iff.mpr ⟨ht, et⟩)).dict
    exact ⟨_, ea⟩
def ansOf (a : Kp189.Ans) : List Int := a.num :: Kp189Neutral.outs a.nums
def sp_Requests_path (A : Adr) : Sp := fun vs H Q _ => ∃ (x l : Addr) (xs ds : List Addr) (S : List Kp189.Piece) (t : Nat), vs = [.ref x, .int t] ∧ AllAt A H x l xs ds S ∧
  ∀ H' r a, Kp189.step (some S) (.path t) = (some S, a) → (ansOf a).length ≤ 400 → Same H H' → H r = none → H' r = some (.lst ((ansOf a).map V.int)) → Q (.ref r) H'
def sp_Requests_time (A : Adr) : Sp := fun vs H Q _ => ∃ (x l : Addr) (xs ds : List Addr) (S : List Kp189.Piece) (t i : Nat), vs = [.ref x, .int t, .int i] ∧ AllAt A H x l xs ds S ∧
  ∀ H' v, Kp189.step (some S) (.time t i) = (some S, Kp189.say v) → Same H H' → Q (.int v) H'
def sp_Requests_time_of_kind (A : Adr) : Sp := fun vs H Q _ => ∃ (x l : Addr) (xs ds : List Addr) (S : List Kp189.Piece) (k : Nat), vs = [.ref x, .int k] ∧ AllAt A H x l xs ds S ∧
  ∀ H' v, Kp189.step (some S) (.kind k) = (some S, Kp189.say v) → Same H H' → Q (.int v) H'
theorem sumI : ∀ l : List Nat, (l.map fun (n : Nat) => (n : Int)).sum = ((Kp189.sum l : Nat) : Int)
  | [] => rfl
  | x :: l => by rw [List.map_cons, List.sum_cons, Tw.sum_cons, sumI l]; omega
section
variable {P : Program} {w : World} {K : PySem.W.Frag} {mg : Str → Option Value} {base : Heap} {A : Adr}
theorem G_Requests_path (T : Txt K mg A) : FnOk P w K mg base CX0 5 A.f_Requests_path A.d_Requests_path ["self", "request"] (sp_Requests_path A) := by
  refine T.fn_Requests_path.ok sc_Requests_path (fun vs H Q E h => ?_) (fun cdv A' outer s0 H vs Q E hr h => ?_)
  · obtain ⟨x, l, xs, ds, S, t, rfl, _⟩ := h
    rfl
  · obtain ⟨x, l, xs, ds, S, t, rfl, B, q⟩ := h
    obtain ⟨dx, hx⟩ := B.obj
    have est : Kp189.step (some S) (.path t) = (some S, if Kp189.REQUESTS ≤ t then Kp189.say (-22) else match Kp189.root S t with
      | none => Kp189.say (-2)
      | some _ => ⟨((Kp189.path S t).length : Int), (Kp189.path S t).flatMap three⟩) := rfl
    refine ⟨_, (pss_cons (ps_if (pt_cmpR op_gt (pv 1) (pe_globE rfl T.k_LAST_REQUEST) (nomark _))
      (pss_one (ps_ret (pe_lst (pa_cons (pe_globE rfl T.k_WRONG_NUMBER) pa_nil))))
      pss_nil)
      (pss_one (ps_ret (pe_meth0 (pe_ix ix_list (pe_fld (pv 0) rfl) (pv 1) (fun _ _ => rfl)) T.cl_Request T.mt_Request_path (G_Request_path T) (hr.mono (by decide)) T.bn_Request_path .nil pass0)))), ?_⟩
    refine ⟨_, rfl, _, _, rfl, rfl, _, rfl, ?_⟩
    refine ite2 (fun h1 => ?_) (fun h1 => ?_)
    · have h1 := of_decide_eq_true h1
      rw [if_pos (show Kp189.REQUESTS ≤ t by show 16 ≤ t; omega)] at est
      refine ⟨(by show 1 ≤ sizeLine; decide), fun rl hrl => ?_⟩
      exact q _ rl _ est (by decide) (Same.new hrl) hrl upd_same
    have h1 : ¬ 15 < t := fun z => h1 (decide_eq_true (by omega))
    rw [if_neg (show ¬ Kp189.REQUESTS ≤ t by show ¬ 16 ≤ t; omega)] at est
    obtain ⟨a, d, ha, hd, R⟩ := B.get (t := t) (by omega)
    obtain ⟨da, hin⟩ := R.ins
    obtain ⟨r, W⟩ := R.wf
    refine ⟨_, rfl, x, A.cRequests, dx, _, _, rfl, hx, T.cl_Requests, T.na_Requests_by_number, F_Requests_by_number _, _, rfl, l, _, _, _, rfl, rfl, SqL.of B.lst, atI_nat (v := V.ref a) (by rw [List.getElem?_map, ha]; rfl), a, da, _, rfl, hin, F_Request_no _ _ (by decide +kernel) (by decide +kernel), ?_⟩
    refine ⟨a, d, t, _, rfl, R, fun H' r s n e => ?_⟩
    have ea : pathAns (Kp189.ofRequest S t) t = ansOf (match Kp189.root S t with
      | none => Kp189.say (-2)
      | some _ => ⟨((Kp189.path S t).length : Int), (Kp189.path S t).flatMap three⟩) := by
      unfold pathAns
      rw [Tw.root_of, Tw.path_of]
      cases Kp189.root S t <;> rfl
    have hl := pathAns_len W
    rw [ea] at e hl
    exact q H' r _ est hl s n e
theorem G_Requests_time (T : Txt K mg A) : FnOk P w K mg base CX0 5 A.f_Requests_time A.d_Requests_time ["self", "request", "piece_id"] (sp_Requests_time A) := by
  refine T.fn_Requests_time.ok sc_Requests_time (fun vs H Q E h => ?_) (fun cdv A' outer s0 H vs Q E hr h => ?_)
  · obtain ⟨x, l, xs, ds, S, t, i, rfl, _⟩ := h
    rfl
  · obtain ⟨x, l, xs, ds, S, t, i, rfl, B, q⟩ := h
    obtain ⟨dx, hx⟩ := B.obj
    have est : Kp189.step (some S) (.time t i) = (some S, if Kp189.REQUESTS ≤ t then Kp189.say (-22) else match Kp189.root S t, Kp189.find S t i with
      | some _, some _ => Kp189.say ((Kp189.timeOf S t i : Nat) : Int)
      | _, _ => Kp189.say (-2)) := rfl
    refine ⟨_, (pss_cons (ps_if (pt_cmpR op_gt (pv 1) (pe_globE rfl T.k_LAST_REQUEST) (nomark _))
      (pss_one (ps_ret (pe_globE rfl T.k_WRONG_NUMBER)))
      pss_nil)
      (pss_one (ps_ret (pe_meth (pe_ix ix_list (pe_fld (pv 0) rfl) (pv 1) (fun _ _ => rfl)) T.cl_Request T.mt_Request_time (G_Request_time T) (hr.mono (by decide)) T.bn_Request_time .nil pass0 (pa_cons (pv 2) pa_nil))))), ?_⟩
    refine ⟨_, rfl, _, _, rfl, rfl, _, rfl, ?_⟩
    refine ite2 (fun h1 => ?_) (fun h1 => ?_)
    · have h1 := of_decide_eq_true h1
      rw [if_pos (show Kp189.REQUESTS ≤ t by show 16 ≤ t; omega)] at est
      exact q H (-22) est (Same.refl H)
    have h1 : ¬ 15 < t := fun z => h1 (decide_eq_true (by omega))
    rw [if_neg (show ¬ Kp189.REQUESTS ≤ t by show ¬ 16 ≤ t; omega)] at est
    obtain ⟨a, d, ha, hd, R⟩ := B.get (t := t) (by omega)
    obtain ⟨da, hin⟩ := R.ins
    refine ⟨_, rfl, x, A.cRequests, dx, _, _, rfl, hx, T.cl_Requests, T.na_Requests_by_number, F_Requests_by_number _, _, rfl, l, _, _, _, rfl, rfl, SqL.of B.lst, atI_nat (v := V.ref a) (by rw [List.getElem?_map, ha]; rfl), a, da, _, rfl, hin, F_Request_no _ _ (by decide +kernel) (by decide +kernel), _, rfl, ?_⟩
    refine ⟨a, d, t, _, i, rfl, R, fun H' s => ?_⟩
    refine q H' _ ?_ s
    rw [est]
    unfold timeAns
    rw [Tw.root_of, Tw.find_of, Tw.timeOf_of]
    cases Kp189.root S t <;> cases Kp189.find S t i <;> rfl
theorem G_Requests_time_of_kind (T : Txt K mg A) : FnOk P w K mg base CX0 5 A.f_Requests_time_of_kind A.d_Requests_time_of_kind ["self", "kind"] (sp_Requests_time_of_kind A) := by
  refine T.fn_Requests_time_of_kind.ok sc_Requests_time_of_kind (fun vs H Q E h => ?_) (fun cdv A' outer s0 H vs Q E hr h => ?_)
  · obtain ⟨x, l, xs, ds, S, k, rfl, _⟩ := h
    rfl
  · obtain ⟨x, l, xs, ds, S, k, rfl, B, q⟩ := h
    obtain ⟨dx, hx⟩ := B.obj
    have est : Kp189.step (some S) (.kind k) = (some S, if Kp189.KINDS ≤ k then Kp189.say (-22) else Kp189.say ((Kp189.timeOfKind S k : Nat) : Int)) := rfl
    refine ⟨_, (pss_cons (ps_if (pt_cmpR op_gt (pv 1) (pe_globE rfl T.k_LAST_KIND) (nomark _))
      (pss_one (ps_ret (pe_globE rfl T.k_WRONG_NUMBER)))
      pss_nil)
      (pss_one (ps_ret (pe_callB (cr_sum rfl) (by rfl) T.b_sum PyProof.Rows.boot_sum (pa_cons (pe_lc (own := [("request", 2)]) rfl sc_Requests_time_of_kind.nd (pi_list (pe_fld (pv 0) rfl)) (blk_of (N := ["self", "kind", "request"]) (sc := defScope s_Requests_time_of_kind) ⟨rfl, by decide +kernel, by decide +kernel, by decide +kernel, by decide +kernel⟩ rfl rfl) (fun _ _ _ _ _ => (pg_name (i := 2) sc_Requests_time_of_kind.nd rfl (Or.inl rfl))) (fun _ _ _ _ _ => pts_nil) (fun _ _ _ _ _ => (pe_meth (pv 2) T.cl_Request T.mt_Request_time_of_kind (G_Request_time_of_kind T) (hr.mono (by decide)) T.bn_Request_time_of_kind .nil pass0 (pa_cons (pv 1) pa_nil)))) pa_nil))))), ?_⟩
    refine ⟨_, rfl, _, _, rfl, rfl, _, rfl, ?_⟩
    refine ite2 (fun h1 => ?_) (fun h1 => ?_)
    · have h1 := of_decide_eq_true h1
      rw [if_pos (show Kp189.KINDS ≤ k by show 64 ≤ k; omega)] at est
      exact q H (-22) est (Same.refl H)
    have h1 : ¬ 63 < k := fun z => h1 (decide_eq_true (by omega))
    rw [if_neg (show ¬ Kp189.KINDS ≤ k by show ¬ 64 ≤ k; omega)] at est
    refine ⟨_, rfl, x, A.cRequests, dx, _, _, rfl, hx, T.cl_Requests, T.na_Requests_by_number, F_Requests_by_number _, l, rfl, ⟨_, SqL.of B.lst⟩, fun D hD => ?_⟩
    generalize hg : (fun t => Tw.kindIn (Kp189.ofRequest S t) t k) = g
    have hge : Kp189.timeOfKind S k = Kp189.sum ((List.range 16).map g) := by rw [← hg]; exact Tw.timeOfKind_eq S k
    refine lc_list (xs := xs.map V.ref) (fun j H' => H' D = some (.lst ((((List.range j).map g).map fun (n : Nat) => (n : Int)).map V.int)) ∧ Same H H') ⟨upd_same, Same.new hD⟩ (fun j H' _ e => SqL.of (e.2 _ _ B.lst)) (fun j v H' hv e => ?_) (fun H' e => ?_)
    · obtain ⟨e, s1⟩ := e
      obtain ⟨a, ha, rfl⟩ := map_at hv
      have hj : j < 16 := by rw [← B.lenx]; exact (List.getElem?_eq_some_iff.mp ha).1
      obtain ⟨a', d, ha', hd, R⟩ := (B.same s1).get hj
      have := Option.some.inj (ha.symm.trans ha')
      subst this
      obtain ⟨da, hin⟩ := R.ins
      refine ⟨rfl, ?_⟩
      refine yes_of (iteT ?_)
      refine ⟨_, rfl, a, da, _, rfl, hin, F_Request_no _ _ (by decide +kernel) (by decide +kernel), _, rfl, a, d, j, _, k, rfl, R, fun H2 s2 => ?_⟩
      have gj : Tw.kindIn (Kp189.ofRequest S j) j k = g j := by rw [← hg]
      rw [gj]
      refine ⟨_, s2 _ _ e, ?_, ?_, fun b o z => ?_⟩
      · rw [List.length_map, List.length_map, List.length_map, List.length_range]
        exact Nat.lt_trans hj (by decide)
      · rw [upd_same, List.range_succ, List.map_append, List.map_append, List.map_append]
        rfl
      · rw [upd_ne (ne_of_none z hD)]
        exact s2 _ _ (s1 _ _ z)
    · obtain ⟨e, s1⟩ := e
      refine ⟨D, _, rfl, SqL.of e, ?_⟩
      rw [List.length_map, B.lenx, sumI, ← hge]
      exact q H' _ est s1
end
end Tp

set_option Elab.async false
set_option linter.all false
set_option maxRecDepth 100000
set_option maxHeartbeats 2000000
/-! answer_call (commit B = 9b99e8e). -/
namespace Tp
open PySem PySem.Spec PyProof.Rows L2
open Tw (WF comes)
theorem nat_of {z : Int} {n : Nat} (h : Kp189Neutral.natural z n = true) : ∃ m : Nat, z = (m : Int) := by
  unfold Kp189Neutral.natural at h
  rw [Bool.and_eq_true] at h
  have := of_decide_eq_true h.1
  exact ⟨z.toNat, by omega⟩
theorem asked_cases {c : Int} {ns : List Int} (h : Kp189Neutral.asked1 [c :: ns] = true) :
    (c = 0 ∧ ns = []) ∨ (c = 1 ∧ ∃ t i w f e k : Nat, ns = [(t : Int), (i : Int), (w : Int), (f : Int), (e : Int), (k : Int)]) ∨ (c = 2 ∧ ∃ t : Nat, ns = [(t : Int)]) ∨ (c = 3 ∧ ∃ t : Nat, ns = [(t : Int)]) ∨ (c = 4 ∧ ∃ t i : Nat, ns = [(t : Int), (i : Int)]) ∨ (c = 5 ∧ ∃ k : Nat, ns = [(k : Int)]) := by
  unfold Kp189Neutral.asked1 at h
  split at h
  · rename_i e
    have e := (List.cons.inj e).1
    exact .inl ⟨(List.cons.inj e).1, (List.cons.inj e).2⟩
  · rename_i t i w f e k eq
    have eq := (List.cons.inj eq).1
    simp only [Bool.and_eq_true] at h
    obtain ⟨h1, h2, h3, h4, h5, h6⟩ := h
    obtain ⟨n1, rfl⟩ := nat_of h1
    obtain ⟨n2, rfl⟩ := nat_of h2
    obtain ⟨n3, rfl⟩ := nat_of h3
    obtain ⟨n4, rfl⟩ := nat_of h4
    obtain ⟨n5, rfl⟩ := nat_of h5
    obtain ⟨n6, rfl⟩ := nat_of h6
    exact .inr (.inl ⟨(List.cons.inj eq).1, _, _, _, _, _, _, (List.cons.inj eq).2⟩)
  · rename_i t eq
    have eq := (List.cons.inj eq).1
    obtain ⟨n1, rfl⟩ := nat_of h
    exact .inr (.inr (.inl ⟨(List.cons.inj eq).1, _, (List.cons.inj eq).2⟩))
  · rename_i t eq
    have eq := (List.cons.inj eq).1
    obtain ⟨n1, rfl⟩ := nat_of h
    exact .inr (.inr (.inr (.inl ⟨(List.cons.inj eq).1, _, (List.cons.inj eq).2⟩)))
  · rename_i t i eq
    have eq := (List.cons.inj eq).1
    simp only [Bool.and_eq_true] at h
    obtain ⟨h1, h2⟩ := h
    obtain ⟨n1, rfl⟩ := nat_of h1
    obtain ⟨n2, rfl⟩ := nat_of h2
    exact .inr (.inr (.inr (.inr (.inl ⟨(List.cons.inj eq).1, _, _, (List.cons.inj eq).2⟩))))
  · rename_i t eq
    have eq := (List.cons.inj eq).1
    obtain ⟨n1, rfl⟩ := nat_of h
    exact .inr (.inr (.inr (.inr (.inr ⟨(List.cons.inj eq).1, _, (List.cons.inj eq).2⟩))))
  · cases h
section
variable {P : Program} {w : World} {K : PySem.W.Frag} {mg : Str → Option Value} {base : Heap} {A : Adr}
theorem G_answer_call (T : Txt K mg A) : FnOk P w K mg base CX0 6 A.f_answer_call A.d_answer_call ["requests", "call", "numbers"] (sp_answer_call A) := by
  refine T.fn_answer_call.ok sc_answer_call (fun vs H Q E h => ?_) (fun cdv A' outer s0 H vs Q E hr h => ?_)
  · obtain ⟨x, l, xs, ds, S, c, nl, ns, rfl, _⟩ := h
    rfl
  · obtain ⟨x, l, xs, ds, S, c, nl, ns, rfl, B, hnl, hask, q⟩ := h
    obtain ⟨dx, hx⟩ := B.obj
    refine ⟨_, (pss_cons (ps_if (pt_cmpR op_eq (pv 1) (pe_globE rfl T.k_BEGIN) (nomark _))
      (pss_one (ps_ret (pe_lst (pa_cons (pe_meth0 (pv 0) T.cl_Requests T.mt_Requests_begin (G_Requests_begin T) (hr.mono (by decide)) T.bn_Requests_begin .nil pass0) pa_nil))))
      pss_nil)
      (pss_cons (ps_if (pt_cmpR op_eq (pv 1) (pe_globE rfl T.k_TELL) (nomark _))
      (pss_one (ps_ret (pe_lst (pa_cons (pe_meth (pv 0) T.cl_Requests T.mt_Requests_tell (G_Requests_tell T) (hr.mono (by decide)) T.bn_Requests_tell .nil pass0 (pa_cons (pe_ix ix_list (pv 2) pe_int (fun _ _ => rfl)) (pa_cons (pe_ix ix_list (pv 2) pe_int (fun _ _ => rfl)) (pa_cons (pe_ix ix_list (pv 2) pe_int (fun _ _ => rfl)) (pa_cons (pe_ix ix_list (pv 2) pe_int (fun _ _ => rfl)) (pa_cons (pe_ix ix_list (pv 2) pe_int (fun _ _ => rfl)) (pa_cons (pe_ix ix_list (pv 2) pe_int (fun _ _ => rfl)) pa_nil))))))) pa_nil))))
      pss_nil)
      (pss_cons (ps_if (pt_cmpR op_eq (pv 1) (pe_globE rfl T.k_APART) (nomark _))
      (pss_one (ps_ret (pe_lst (pa_cons (pe_meth (pv 0) T.cl_Requests T.mt_Requests_apart (G_Requests_apart T) (hr.mono (by decide)) T.bn_Requests_apart .nil pass0 (pa_cons (pe_ix ix_list (pv 2) pe_int (fun _ _ => rfl)) pa_nil)) pa_nil))))
      pss_nil)
      (pss_cons (ps_if (pt_cmpR op_eq (pv 1) (pe_globE rfl T.k_PATH) (nomark _))
      (pss_one (ps_ret (pe_meth (pv 0) T.cl_Requests T.mt_Requests_path (G_Requests_path T) (hr.mono (by decide)) T.bn_Requests_path .nil pass0 (pa_cons (pe_ix ix_list (pv 2) pe_int (fun _ _ => rfl)) pa_nil))))
      pss_nil)
      (pss_cons (ps_if (pt_cmpR op_eq (pv 1) (pe_globE rfl T.k_TIME) (nomark _))
      (pss_one (ps_ret (pe_lst (pa_cons (pe_meth (pv 0) T.cl_Requests T.mt_Requests_time (G_Requests_time T) (hr.mono (by decide)) T.bn_Requests_time .nil pass0 (pa_cons (pe_ix ix_list (pv 2) pe_int (fun _ _ => rfl)) (pa_cons (pe_ix ix_list (pv 2) pe_int (fun _ _ => rfl)) pa_nil))) pa_nil))))
      pss_nil)
      (pss_one (ps_ret (pe_lst (pa_cons (pe_meth (pv 0) T.cl_Requests T.mt_Requests_time_of_kind (G_Requests_time_of_kind T) (hr.mono (by decide)) T.bn_Requests_time_of_kind .nil pass0 (pa_cons (pe_ix ix_list (pv 2) pe_int (fun _ _ => rfl)) pa_nil)) pa_nil))))))))), ?_⟩
    have noat : ∀ m : Str, ¬ m = "by_number" → (F_Requests (.ref l)).lookup m = none := fun m h => F_Requests_no _ h
    -- a call that leaves all requests as they were, its answer one number in a new list
    have one : ∀ (H' : Hp) (v : Int) (al : Addr), Same H H' → H' al = none → Kp189Neutral.step (some S) [c :: ns] = (some S, [v]) → Q (.ref al) (upd H' al (.lst [V.int v])) := fun H' v al s hal est => by
      have s2 : Same H (upd H' al (.lst [V.int v])) := s.trans (Same.new hal)
      exact q _ S [v] al l xs ds est (by show 1 ≤ 400; decide) (B.same s2) upd_same (s.free hal) (fun z => by rw [z, s _ _ B.lst] at hal; cases hal) (fun b o z _ _ _ => s2 _ _ z) (fun b hb => .inl hb)
    rcases asked_cases hask with ⟨rfl, rfl⟩ | ⟨rfl, t, i, w, f, e, k, rfl⟩ | ⟨rfl, t, rfl⟩ | ⟨rfl, t, rfl⟩ | ⟨rfl, t, i, rfl⟩ | ⟨rfl, k, rfl⟩
    · refine ⟨_, rfl, rfl, _, rfl, ?_⟩
      refine iteT ?_
      refine ⟨_, rfl, x, dx, _, rfl, hx, noat _ (by decide +kernel), x, dx, _, rfl, hx, F_Requests_len _, fun v => F_Requests_put_by_number _ _, fun H' l' xs' ds' B' k' f' => ?_⟩
      refine ⟨(by show 1 ≤ sizeLine; decide), fun al hal => ?_⟩
      have s2 : Same H' (upd H' al (.lst [V.int 0])) := Same.new hal
      obtain ⟨dx', hx'⟩ := B'.obj
      have halH : H al = none := by
        cases e : H al with
        | none => rfl
        | some o =>
          exfalso
          by_cases z : al = x
          · rw [z, hx'] at hal; cases hal
          · rw [k' al o e z] at hal; cases hal
      exact q _ [] [0] al l' xs' ds' rfl (by show 1 ≤ 400; decide) (B'.same s2) upd_same halH (fun z => by rw [z, B'.lst] at hal; cases hal) (fun b o z hb _ _ => s2 _ _ (k' b o z hb)) (fun b hb => .inr (f' b hb))
    · refine ⟨_, rfl, rfl, _, rfl, ?_⟩
      refine iteF ?_
      refine ⟨_, rfl, rfl, _, rfl, ?_⟩
      refine iteT ?_
      refine ⟨_, rfl, x, dx, _, rfl, hx, noat _ (by decide +kernel), _, rfl, nl, _, _, _, rfl, rfl, SqL.of hnl, rfl, _, rfl, nl, _, _, _, rfl, rfl, SqL.of hnl, rfl, _, rfl, nl, _, _, _, rfl, rfl, SqL.of hnl, rfl, _, rfl, nl, _, _, _, rfl, rfl, SqL.of hnl, rfl, _, rfl, nl, _, _, _, rfl, rfl, SqL.of hnl, rfl, _, rfl, nl, _, _, _, rfl, rfl, SqL.of hnl, rfl, ?_⟩
      refine ⟨x, l, xs, ds, S, ⟨t, i, w, f, e, k⟩, rfl, B, fun H' S' v est B' k' => ?_⟩
      refine ⟨(by show 1 ≤ sizeLine; decide), fun al hal => ?_⟩
      have s2 : Same H' (upd H' al (.lst [V.int v])) := Same.new hal
      have halH : H al = none := by
        cases e : H al with
        | none => rfl
        | some o =>
          exfalso
          by_cases z : al ∈ xs ∨ al ∈ ds
          · obtain ⟨o', z⟩ := B'.there z
            rw [z] at hal; cases hal
          · rw [k' al o e (fun y => z (.inl y)) (fun y => z (.inr y))] at hal; cases hal
      have est2 : Kp189Neutral.step (some S) [[1, (t : Int), (i : Int), (w : Int), (f : Int), (e : Int), (k : Int)]] = (some S', [v]) := by
        show ((Kp189.step (some S) (.tell ⟨t, i, w, f, e, k⟩)).1, (Kp189.step (some S) (.tell ⟨t, i, w, f, e, k⟩)).2.num :: Kp189Neutral.outs (Kp189.step (some S) (.tell ⟨t, i, w, f, e, k⟩)).2.nums) = _
        rw [est]
        rfl
      exact q _ S' [v] al l xs ds est2 (by show 1 ≤ 400; decide) (B'.same s2) upd_same halH (fun z => by rw [z, B'.lst] at hal; cases hal) (fun b o z _ h1 h2 => s2 _ _ (k' b o z h1 h2)) (fun b hb => .inl hb)
    · refine ⟨_, rfl, rfl, _, rfl, ?_⟩
      refine iteF ?_
      refine ⟨_, rfl, rfl, _, rfl, ?_⟩
      refine iteF ?_
      refine ⟨_, rfl, rfl, _, rfl, ?_⟩
      refine iteT ?_
      refine ⟨_, rfl, x, dx, _, rfl, hx, noat _ (by decide +kernel), _, rfl, nl, _, _, _, rfl, rfl, SqL.of hnl, rfl, ?_⟩
      refine ⟨x, l, xs, ds, S, t, rfl, B, fun H' v est s => ?_⟩
      refine ⟨(by show 1 ≤ sizeLine; decide), fun al hal => one H' v al s hal ?_⟩
      show ((Kp189.step (some S) (.apart t)).1, (Kp189.step (some S) (.apart t)).2.num :: Kp189Neutral.outs (Kp189.step (some S) (.apart t)).2.nums) = _
      rw [est]
      rfl
    · refine ⟨_, rfl, rfl, _, rfl, ?_⟩
      refine iteF ?_
      refine ⟨_, rfl, rfl, _, rfl, ?_⟩
      refine iteF ?_
      refine ⟨_, rfl, rfl, _, rfl, ?_⟩
      refine iteF ?_
      refine ⟨_, rfl, rfl, _, rfl, ?_⟩
      refine iteT ?_
      refine ⟨_, rfl, x, dx, _, rfl, hx, noat _ (by decide +kernel), _, rfl, nl, _, _, _, rfl, rfl, SqL.of hnl, rfl, ?_⟩
      refine ⟨x, l, xs, ds, S, t, rfl, B, fun H' r a est hlen s n e => ?_⟩
      refine q H' S (ansOf a) r l xs ds ?_ hlen (B.same s) e n (fun z => by rw [z, B.lst] at n; cases n) (fun b o z _ _ _ => s _ _ z) (fun b hb => .inl hb)
      show ((Kp189.step (some S) (.path t)).1, (Kp189.step (some S) (.path t)).2.num :: Kp189Neutral.outs (Kp189.step (some S) (.path t)).2.nums) = _
      rw [est]
      rfl
    · refine ⟨_, rfl, rfl, _, rfl, ?_⟩
      refine iteF ?_
      refine ⟨_, rfl, rfl, _, rfl, ?_⟩
      refine iteF ?_
      refine ⟨_, rfl, rfl, _, rfl, ?_⟩
      refine iteF ?_
      refine ⟨_, rfl, rfl, _, rfl, ?_⟩
      refine iteF ?_
      refine ⟨_, rfl, rfl, _, rfl, ?_⟩
      refine iteT ?_
      refine ⟨_, rfl, x, dx, _, rfl, hx, noat _ (by decide +kernel), _, rfl, nl, _, _, _, rfl, rfl, SqL.of hnl, rfl, _, rfl, nl, _, _, _, rfl, rfl, SqL.of hnl, rfl, ?_⟩
      refine ⟨x, l, xs, ds, S, t, i, rfl, B, fun H' v est s => ?_⟩
      refine ⟨(by show 1 ≤ sizeLine; decide), fun al hal => one H' v al s hal ?_⟩
      show ((Kp189.step (some S) (.time t i)).1, (Kp189.step (some S) (.time t i)).2.num :: Kp189Neutral.outs (Kp189.step (some S) (.time t i)).2.nums) = _
      rw [est]
      rfl
    · refine ⟨_, rfl, rfl, _, rfl, ?_⟩
      refine iteF ?_
      refine ⟨_, rfl, rfl, _, rfl, ?_⟩
      refine iteF ?_
      refine ⟨_, rfl, rfl, _, rfl, ?_⟩
      refine iteF ?_
      refine ⟨_, rfl, rfl, _, rfl, ?_⟩
      refine iteF ?_
      refine ⟨_, rfl, rfl, _, rfl, ?_⟩
      refine iteF ?_
      refine ⟨_, rfl, x, dx, _, rfl, hx, noat _ (by decide +kernel), _, rfl, nl, _, _, _, rfl, rfl, SqL.of hnl, rfl, ?_⟩
      refine ⟨x, l, xs, ds, S, k, rfl, B, fun H' v est s => ?_⟩
      refine ⟨(by show 1 ≤ sizeLine; decide), fun al hal => one H' v al s hal ?_⟩
      show ((Kp189.step (some S) (.kind k)).1, (Kp189.step (some S) (.kind k)).2.num :: Kp189Neutral.outs (Kp189.step (some S) (.kind k)).2.nums) = _
      rw [est]
      rfl
end
end Tp

set_option Elab.async false
set_option linter.all false
set_option maxRecDepth 100000
set_option maxHeartbeats 2000000
/-! answers (commit B = 9b99e8e). -/
namespace Tp
open PySem PySem.Spec PyProof.Rows L2
open Tw (WF comes)
def sp_answers (K : PySem.W.Frag) : Sp := fun vs H Q _ => ∃ (a : Addr) (ns : List Int), vs = [.ref a] ∧ SqL K H a (ns.map V.int) ∧ ns.length ≤ 30000 ∧ PyKp189.answers_asked ns = true ∧ ∀ (H' : Hp) (p : Addr), H' p = some (.lst ((PyKp189.answers ns).map V.int)) → Q (.ref p) H'
theorem width_at {c : Int} (h0 : 0 ≤ c) (h5 : c ≤ 5) : atI ([.int 0, .int 6, .int 1, .int 1, .int 2, .int 1] : List V) c = some (.int (Tw.width c)) := by
  have h : c = 0 ∨ c = 1 ∨ c = 2 ∨ c = 3 ∨ c = 4 ∨ c = 5 := by omega
  rcases h with rfl | rfl | rfl | rfl | rfl | rfl <;> rfl
theorem cut_at {ns : List Int} {i w : Nat} (h : i + w ≤ ns.length) : cutV (ns.map V.int) (some (i : Int)) (some ((i + w : Nat) : Int)) = ((ns.drop i).take w).map V.int := by
  unfold cutV
  rw [HT.sIx_nat, HT.sIx_nat, List.length_map, Nat.min_eq_left h, Nat.min_eq_left (by omega), Nat.add_sub_cancel_left, List.map_take, List.map_drop]
section
variable {P : Program} {w : World} {K : PySem.W.Frag} {mg : Str → Option Value} {base : Heap} {A : Adr}
theorem G_answers (T : Txt K mg A) : FnOk P w K mg base CX0 7 A.f_answers A.d_answers ["calls"] (sp_answers K) := by
  refine T.fn_answers.ok sc_answers (fun vs H Q E h => ?_) (fun cdv A' outer s0 H vs Q E hr h => ?_)
  · obtain ⟨a, ns, rfl, _⟩ := h
    rfl
  · obtain ⟨a, ns, rfl, hS, hlen, hask, k⟩ := h
    refine ⟨_, (pss_cons (ps_set (i := 1) sc_answers.nd rfl (Or.inl rfl) (pe_make0 T.mk_Requests (G_Requests_init T) (hr.mono (by decide)) rfl T.mg_Requests T.bn_Requests_init .nil pass0))
      (pss_cons (ps_set (i := 2) sc_answers.nd rfl (Or.inl rfl) (pe_lst pa_nil))
      (pss_cons (ps_set (i := 3) sc_answers.nd rfl (Or.inl rfl) pe_int)
      (pss_cons (ps_while PassesOwn.never (pt_cmpR op_lt (pv 3) (pe_callB call_len_seq (by rfl) T.b_len PySem.boot_len (pa_cons (pv 0) pa_nil)) (nomark _))
      (pss_cons (ps_set (i := 4) sc_answers.nd rfl (Or.inl rfl) (pe_ix ix_list (pv 0) (pv 3) (fun _ _ => rfl)))
        (pss_cons (ps_set (i := 5) sc_answers.nd rfl (Or.inl rfl) (pe_op op_add (pe_op op_add (pv 3) pe_int) (pe_ix ix_tup (pe_glob (v := .ref A.a_NUMBERS_OF_CALL) rfl T.k_NUMBERS_OF_CALL rfl) (pv 4) (fun _ _ => rfl))))
        (pss_cons (ps_set (i := 6) sc_answers.nd rfl (Or.inl rfl) (pe_call (G_answer_call T) (hr.mono (by decide)) rfl T.mg_answer_call T.fn_answer_call.kp T.bn_answer_call .nil pass0 (pa_cons (pv 1) (pa_cons (pv 4) (pa_cons (pe_slice sl_list (pv 0) (po_some (pe_op op_add (pv 3) pe_int)) (po_some (pv 5))) pa_nil)))))
        (pss_cons (ps_expr (pe_bm PySem.F.plainAttrs_list PySem.F.slot_list_append PySem.F.type_list_append mt_append (pv 2) (pa_cons (pe_callB call_len_seq (by rfl) T.b_len PySem.boot_len (pa_cons (pv 6) pa_nil)) pa_nil)))
        (pss_cons (ps_expr (pe_bm PySem.F.plainAttrs_list PySem.F.slot_list_extend PySem.F.type_list_extend mt_extend (pv 2) (pa_cons (pv 6) pa_nil)))
        (pss_one (ps_set (i := 3) sc_answers.nd rfl (Or.inl rfl) (pv 5)))))))))
      (pss_one (ps_ret (pv 2))))))), ?_⟩
    -- requests = Requests()
    intro x dx hx hdx hne
    refine ⟨x, dx, rfl, upd_same, fun H1 l xs ds B k1 f1 => ⟨rfl, ?_⟩⟩
    have s0 : Same H (upd (upd H dx (.own x)) x (.ins A.cRequests dx [])) := fun b o z => by
      rw [upd_ne (ne_of_none z hx), upd_ne (ne_of_none z hdx)]
      exact z
    have s1 : Same H H1 := fun b o z => k1 b o (s0 _ _ z) (ne_of_none z hx)
    have f1 : ∀ b ∈ l :: (xs ++ ds), H b = none := fun b m => s0.free (f1 b m)
    -- given = []
    refine ⟨Nat.zero_le _, fun g hg => ?_⟩
    have hgn : H g = none := s1.free hg
    have B2 : AllAt A (upd H1 g (.lst [])) x l xs ds [] := B.same (Same.new hg)
    have s2 : Same H (upd H1 g (.lst [])) := s1.trans (Same.new hg)
    have hlg : l ≠ g := ne_of_none B.lst hg
    obtain ⟨cs0, R0⟩ := Tw.Rest.start hask
    -- while at < len(calls)
    refine ⟨fun m σ H' => ∃ (at_ n : Nat) (s : Option (List Kp189.Piece)) (gv : List Int) (cs : List (List (List Int))) (l : Addr) (xs ds : List Addr) (v4 v5 v6 : Option V), σ = [some (.ref a), some (.ref x), some (.ref g), some (.int at_), v4, v5, v6] ∧ m = ns.length - at_ ∧ Tw.Rest ns at_ n s gv cs ∧
        AllAt A H' x l xs ds (s.getD []) ∧ H' g = some (.lst (gv.map V.int)) ∧ l ≠ g ∧ Same H H' ∧ (∀ b ∈ l :: (xs ++ ds), H b = none) ∧ gv.length ≤ 401 * n ∧ at_ ≤ ns.length,
      ⟨_, 0, 0, none, [], cs0, l, xs, ds, none, none, none, rfl, rfl, R0, B2, upd_same, hlg, s2, f1, Nat.zero_le _, Nat.zero_le _⟩, ?_⟩
    rintro m σ H' ⟨at_, n, s, gv, cs, l, xs, ds, v4, v5, v6, rfl, rfl, R, B, hgv, hlg, s3, f3, hgl, hal⟩
    have hS' := s3.seq hS
    refine ⟨_, rfl, _, rfl, a, _, rfl, .inl hS', _, _, rfl, rfl, _, rfl, ?_⟩
    refine ite2 (fun h => ?_) (fun h => ?_)
    · have hlt : at_ < ns.length := by
        have := of_decide_eq_true h
        rw [List.length_map] at this
        omega
      obtain ⟨c, hc⟩ : ∃ c, ns[at_]? = some c := ⟨_, List.getElem?_eq_getElem hlt⟩
      obtain ⟨nums, cs', en, enl, c0, c5, hend, hok, hn, hfirst, next⟩ := R.step hc
      refine ⟨_, fun _ _ z => z, ?_⟩
      refine ⟨_, rfl, _, rfl, a, _, _, _, rfl, rfl, hS', atI_nat (v := V.int c) (by rw [List.getElem?_map, hc]; rfl), ?_⟩
      refine ⟨_, rfl, _, _, rfl, rfl, _, rfl, A.a_NUMBERS_OF_CALL, _, _, _, rfl, rfl, T.t_NUMBERS_OF_CALL _, width_at c0 c5, _, _, rfl, rfl, ?_⟩
      refine ⟨_, rfl, _, rfl, _, rfl, _, rfl, _, _, rfl, rfl, _, rfl, _, rfl, _, rfl, a, _, rfl, hS', fun nl hnl => ?_⟩
      have ecut : cutV (ns.map V.int) (some ((at_ : Int) + 1)) (some ((at_ : Int) + 1 + (Tw.width c : Int))) = nums.map V.int := by
        have := cut_at (ns := ns) (i := at_ + 1) (w := Tw.width c) hend
        rw [← en] at this
        rw [← this]
        congr 2
      rw [ecut]
      have s4 : Same H' (upd H' nl (.lst (nums.map V.int))) := Same.new hnl
      refine ⟨x, l, xs, ds, s.getD [], c, nl, nums, rfl, B.same s4, upd_same, hok, fun H5 S' ans al l' xs' ds' est elen B5 hans haln hall' k5 f5 => ?_⟩
      -- behind the call
      have halH' : H' al = none := s4.free haln
      have hag : al ≠ g := fun z => by rw [z, hgv] at halH'; cases halH'
      have hstep : Kp189Neutral.step s [c :: nums] = (some S', ans) := by
        cases s with
        | some S => exact est
        | none =>
          have := hfirst rfl
          subst this
          have : nums = [] := by
            have : nums.length = 0 := enl
            exact List.eq_nil_of_length_eq_zero this
          subst this
          exact est
      have R' := next (some S') ans hstep (by simp)
      obtain ⟨ng1, ng2, ng3⟩ := B.notlst (b := g) hgv
      have hg5 : H5 g = some (.lst (gv.map V.int)) := k5 g _ (s4 _ _ hgv) ng1 ng2 ng3
      have hlg5 : l' ≠ g := fun z => by
        rcases f5 l' List.mem_cons_self with m | m
        · rcases List.mem_cons.mp m with y | y
          · exact hlg (y.symm.trans z)
          · rcases List.mem_append.mp y with y | y
            · exact ng2 (by rw [← z]; exact y)
            · exact ng3 (by rw [← z]; exact y)
        · rw [z, s4 _ _ hgv] at m
          cases m
      have s5 : Same H H5 := fun b o z => by
        refine k5 b o (s4 _ _ (s3 _ _ z)) (ne_of_none z hx) (fun m => ?_) fun m => ?_
        · rw [f3 b (List.mem_cons_of_mem _ (List.mem_append_left _ m))] at z; cases z
        · rw [f3 b (List.mem_cons_of_mem _ (List.mem_append_right _ m))] at z; cases z
      have f6 : ∀ b ∈ l' :: (xs' ++ ds'), H b = none := fun b m => by
        rcases f5 b m with y | y
        · exact f3 b y
        · exact s3.free (s4.free y)
      have room : gv.length + 401 ≤ sizeLine := by
        have : (401 * n + 401 : Nat) ≤ 401 * 400 := by omega
        exact Nat.le_trans (by omega) (Nat.le_trans this (by decide))
      -- given.append(len(answered))
      refine ⟨_, rfl, .inl ⟨rfl, _, SqL.of hg5⟩, _, rfl, al, _, rfl, .inl (SqL.of hans), g, _, _, rfl, rfl, hg5, (by rw [List.length_map]; omega), ?_⟩
      have hg6 : ∀ o, (upd H5 g o) g = some o := fun o => upd_same
      have hans6 : ∀ o, (upd H5 g o) al = some (.lst (ans.map V.int)) := fun o => by rw [upd_ne hag]; exact hans
      -- given.extend(answered)
      refine ⟨_, rfl, .inl ⟨rfl, _, SqL.of upd_same⟩, _, rfl, g, al, _, _, rfl, rfl, upd_same, hans6 _, (by rw [List.length_append, List.length_map, List.length_map]; show gv.length + 1 + ans.length ≤ sizeLine; omega), ?_⟩
      -- at = behind
      refine ⟨_, rfl, ?_⟩
      rw [upd_upd]
      have egv : (gv.map V.int ++ [V.int ((ans.map V.int).length : Int)]) ++ ans.map V.int = (gv ++ (ans.length : Int) :: ans).map V.int := by
        rw [List.length_map, List.map_append, List.append_assoc]
        rfl
      rw [egv]
      refine ⟨ns.length - (at_ + 1 + Tw.width c), by omega, at_ + 1 + Tw.width c, n + 1, some S', _, cs', l', xs', ds', some (.int c), some (.int ((at_ : Int) + 1 + (Tw.width c : Int))), some (.ref al), ?_, rfl, R', B5.lstKeep hg5 hlg5 (fun b o z hb => by rw [upd_ne hb]; exact z), upd_same, hlg5, fun b o z => ?_, f6, ?_, hend⟩
      · show _ = _
        have : ((at_ : Int) + 1 + (Tw.width c : Int)) = ((at_ + 1 + Tw.width c : Nat) : Int) := by omega
        rw [← this]
        all_goals rfl
      · rw [upd_ne (ne_of_none z hgn)]
        exact s5 _ _ z
      · rw [List.length_append, List.length_cons]
        omega
    · have hge : ns.length ≤ at_ := by
        apply Nat.le_of_not_lt
        intro z
        apply h
        rw [List.length_map]
        exact decide_eq_true (by omega)
      refine ⟨_, rfl, ?_⟩
      rw [← R.done hge] at hgv
      exact k H' g hgv
end
end Tp

set_option Elab.async false
set_option linter.all false
set_option maxRecDepth 100000
set_option maxHeartbeats 2000000
/-! The last theorem (commit B = 9b99e8e). -/
namespace Tp
open PySem PySem.Spec PyProof.Rows L2
theorem all_of {P : Program} {w : World} {K : PySem.W.Frag} {mg : Str → Option Value} {A : Adr} {fa : Addr} (T : Txt K mg A) (hfa : mg "answers" = some (.ref fa)) :
    ∃ fd : FuncData, (∀ (s : Shared) (us : List Value), us.length = (["calls"] : List Str).length → BindsTo s fd ⟨us, []⟩ ((["calls"] : List Str).zip us)) ∧ ∀ base : Heap, K.In base → base.Ns mainGlobals mg → FnOk P w K mg base CX0 7 fa fd ["calls"] (sp_answers K) := by
  have e := hfa.symm.trans T.mg_answers
  cases e
  refine ⟨A.d_answers, fun s us hu => ?_, fun base _ _ => G_answers T⟩
  obtain ⟨oc, od, kV, doc, pm, an, cdv, ct, osl, e, _⟩ := T.fn_answers.ex
  rw [e]
  exact match us, hu with | [_], _ => .of_eq rfl
end Tp
open PySem PySem.W PyProof.Rows
set_option maxRecDepth 100000 in
set_option maxHeartbeats 0 in
theorem PySem.Challenge.cw_timewent_s01_answers_holds : PySem.Challenge.rw_timewent_s01_answers.Holds := by
  w_on; k_headS; (case hw => exact ⟨[.list [.int 0]], by decide +kernel, by decide +kernel⟩)
  k_fillS
  refine L2.walk_specK (r := PySem.Challenge.rw_timewent_s01_answers) (k := 7) (CX := L2.CX0) (ps := ["calls"]) (sp := Tp.sp_answers) (by decide +kernel) rfl rfl ⟨rfl, by decide, by decide⟩ (fun w h Y => PySem.W.kIn_of Y) ?F ?S (fun _ _ _ _ z => z)
  case F =>
    intro w mg fa h Y KX G hmg
    refine' Tp.all_of (Tp.txt_mk KX G ?aC_Piece ?aC_Stretch ?aC_Request ?aC_Requests ?a0 ?i0 ?l0 ?c0 ?k0 ?a1 ?i1 ?l1 ?c1 ?k1 ?a2 ?i2 ?l2 ?c2 ?k2 ?a3 ?i3 ?l3 ?c3 ?k3 ?a4 ?i4 ?l4 ?c4 ?k4 ?a5 ?i5 ?l5 ?c5 ?k5 ?a6 ?i6 ?l6 ?c6 ?k6 ?a7 ?i7 ?l7 ?c7 ?k7 ?a8 ?i8 ?l8 ?c8 ?k8 ?a9 ?i9 ?l9 ?c9 ?k9 ?a10 ?i10 ?l10 ?c10 ?k10 ?a11 ?i11 ?l11 ?c11 ?k11 ?a12 ?i12 ?l12 ?c12 ?k12 ?a13 ?i13 ?l13 ?c13 ?k13 ?a14 ?i14 ?l14 ?c14 ?k14 ?a15 ?i15 ?l15 ?c15 ?k15 ?a16 ?i16 ?l16 ?c16 ?k16 ?a17 ?i17 ?l17 ?c17 ?k17 ?a18 ?i18 ?l18 ?c18 ?k18 ?a19 ?i19 ?l19 ?c19 ?k19 ?a20 ?i20 ?l20 ?c20 ?k20 ?a21 ?l21 ?c21 ?k21 ?a22 ?l22 ?c22 ?k22 ?pg_Piece ?hd_Piece ?po_Piece ?sa_Piece ?mk_Piece ?kc_Piece ?n_Piece_within ?n_Piece_since ?n_Piece_to ?n_Piece_kind ?pg_Stretch ?hd_Stretch ?po_Stretch ?sa_Stretch ?mk_Stretch ?kc_Stretch ?n_Stretch_piece_id ?n_Stretch_lo ?n_Stretch_hi ?pg_Request ?hd_Request ?po_Request ?sa_Request ?mk_Request ?kc_Request ?n_Request_told ?n_Request_whole ?pg_Requests ?hd_Requests ?po_Requests ?sa_Requests ?mk_Requests ?kc_Requests ?n_Requests_by_number ?v_MOST_PIECES ?v_TOLD_BEFORE ?v_GOES_ROUND ?v_TOO_MANY ?v_NOT_TOLD ?v_LAST_REQUEST ?v_LAST_KIND ?v_WRONG_NUMBER ?v_BEGIN ?v_TELL ?v_APART ?v_PATH ?v_TIME ?v_NUMBERS_OF_CALL ?w_NUMBERS_OF_CALL ?z_len ?z_list ?z_max ?z_min ?z_range ?z_reversed ?z_sum) hmg
    (case aC_Piece => k_is)
    (case aC_Stretch => k_is)
    (case aC_Request => k_is)
    (case aC_Requests => k_is)
    (case a0 => k_is)
    (case i0 => k_is)
    (case l0 => k_is)
    (case c0 => k_is)
    (case k0 => k_is)
    (case a1 => k_is)
    (case i1 => k_is)
    (case l1 => k_is)
    (case c1 => k_is)
    (case k1 => k_is)
    (case a2 => k_is)
    (case i2 => k_is)
    (case l2 => k_is)
    (case c2 => k_is)
    (case k2 => k_is)
    (case a3 => k_is)
    (case i3 => k_is)
    (case l3 => k_is)
    (case c3 => k_is)
    (case k3 => k_is)
    (case a4 => k_is)
    (case i4 => k_is)
    (case l4 => k_is)
    (case c4 => k_is)
    (case k4 => k_is)
    (case a5 => k_is)
    (case i5 => k_is)
    (case l5 => k_is)
    (case c5 => k_is)
    (case k5 => k_is)
    (case a6 => k_is)
    (case i6 => k_is)
    (case l6 => k_is)
    (case c6 => k_is)
    (case k6 => k_is)
    (case a7 => k_is)
    (case i7 => k_is)
    (case l7 => k_is)
    (case c7 => k_is)
    (case k7 => k_is)
    (case a8 => k_is)
    (case i8 => k_is)
    (case l8 => k_is)
    (case c8 => k_is)
    (case k8 => k_is)
    (case a9 => k_is)
    (case i9 => k_is)
    (case l9 => k_is)
    (case c9 => k_is)
    (case k9 => k_is)
    (case a10 => k_is)
    (case i10 => k_is)
    (case l10 => k_is)
    (case c10 => k_is)
    (case k10 => k_is)
    (case a11 => k_is)
    (case i11 => k_is)
    (case l11 => k_is)
    (case c11 => k_is)
    (case k11 => k_is)
    (case a12 => k_is)
    (case i12 => k_is)
    (case l12 => k_is)
    (case c12 => k_is)
    (case k12 => k_is)
    (case a13 => k_is)
    (case i13 => k_is)
    (case l13 => k_is)
    (case c13 => k_is)
    (case k13 => k_is)
    (case a14 => k_is)
    (case i14 => k_is)
    (case l14 => k_is)
    (case c14 => k_is)
    (case k14 => k_is)
    (case a15 => k_is)
    (case i15 => k_is)
    (case l15 => k_is)
    (case c15 => k_is)
    (case k15 => k_is)
    (case a16 => k_is)
    (case i16 => k_is)
    (case l16 => k_is)
    (case c16 => k_is)
    (case k16 => k_is)
    (case a17 => k_is)
    (case i17 => k_is)
    (case l17 => k_is)
    (case c17 => k_is)
    (case k17 => k_is)
    (case a18 => k_is)
    (case i18 => k_is)
    (case l18 => k_is)
    (case c18 => k_is)
    (case k18 => k_is)
    (case a19 => k_is)
    (case i19 => k_is)
    (case l19 => k_is)
    (case c19 => k_is)
    (case k19 => k_is)
    (case a20 => k_is)
    (case i20 => k_is)
    (case l20 => k_is)
    (case c20 => k_is)
    (case k20 => k_is)
    (case a21 => k_is)
    (case l21 => k_is)
    (case c21 => k_is)
    (case k21 => k_is)
    (case a22 => k_is)
    (case l22 => k_is)
    (case c22 => k_is)
    (case k22 => k_is)
    (case pg_Piece => k_is)
    (case hd_Piece => k_is)
    (case po_Piece => k_is)
    (case sa_Piece => k_is)
    (case mk_Piece => k_is)
    (case kc_Piece => k_is)
    (case n_Piece_within => k_is)
    (case n_Piece_since => k_is)
    (case n_Piece_to => k_is)
    (case n_Piece_kind => k_is)
    (case pg_Stretch => k_is)
    (case hd_Stretch => k_is)
    (case po_Stretch => k_is)
    (case sa_Stretch => k_is)
    (case mk_Stretch => k_is)
    (case kc_Stretch => k_is)
    (case n_Stretch_piece_id => k_is)
    (case n_Stretch_lo => k_is)
    (case n_Stretch_hi => k_is)
    (case pg_Request => k_is)
    (case hd_Request => k_is)
    (case po_Request => k_is)
    (case sa_Request => k_is)
    (case mk_Request => k_is)
    (case kc_Request => k_is)
    (case n_Request_told => k_is)
    (case n_Request_whole => k_is)
    (case pg_Requests => k_is)
    (case hd_Requests => k_is)
    (case po_Requests => k_is)
    (case sa_Requests => k_is)
    (case mk_Requests => k_is)
    (case kc_Requests => k_is)
    (case n_Requests_by_number => k_is)
    (case v_MOST_PIECES => k_is)
    (case v_TOLD_BEFORE => k_is)
    (case v_GOES_ROUND => k_is)
    (case v_TOO_MANY => k_is)
    (case v_NOT_TOLD => k_is)
    (case v_LAST_REQUEST => k_is)
    (case v_LAST_KIND => k_is)
    (case v_WRONG_NUMBER => k_is)
    (case v_BEGIN => k_is)
    (case v_TELL => k_is)
    (case v_APART => k_is)
    (case v_PATH => k_is)
    (case v_TIME => k_is)
    (case v_NUMBERS_OF_CALL => k_is)
    (case w_NUMBERS_OF_CALL => k_is)
    (case z_len => k_is)
    (case z_list => k_is)
    (case z_max => k_is)
    (case z_min => k_is)
    (case z_range => k_is)
    (case z_reversed => k_is)
    (case z_sum => k_is)
  case S =>
    intro K H xs a hO hwi hask hx
    cases hx with
    | cons h1 h2 =>
      cases h2
      cases h1 with
      | lst hs ha =>
        have e := L2.ints_dw a.1 _ ha
        subst e
        have q : ((Codec.inLen 0 30000 a.1 && a.1.all (Codec.inInt 0 4294967295)) && true) = true := hwi
        rw [Bool.and_eq_true, Bool.and_eq_true] at q
        exact ⟨_, a.1, rfl, hs, (Codec.inNat_iff.mp q.1.1).2, hask, fun H' p hp => .lst (L2.SqL.of hp) (L2.dw_ints _)⟩
