import PyProof.Rows.All
import Wide.All
import OpenK.AllK
import Wide.FinOn
import PyProof.EqAt
import PyProof.EqKinds
import PyProof.TupleCall
import KE.BitLaws
import Open.SpecLaws
import KE.OsHead
import KE.OsGo
import PySem.Challenge.RW_lasttricks_s04_taken
section
-- CHANGE: your row's module here, as the last of these rows
set_option Elab.async false
set_option linter.all false
set_option maxRecDepth 100000
/-! THE HAND LAYER, for ints, bools, texts, own classes, lists, tuples, dicts, comprehensions, walks over dicts, enumerate, zip, reversed, texts, calls, loops. Paste it whole ahead of your own text; what your proof does not reach may be deleted. -/
namespace L2
open PySem PySem.Spec PyProof.Rows

/-- a key: an int or a str -/
abbrev Key := Sum Int Str
def keyIs : Key → Value → Bool
  | .inl k, v => Value.isInt k v
  | .inr x, v => Value.isStrOf x v
def keyH (w : World) : Key → Int
  | .inl k => hashInt k
  | .inr x => hashStr w x
theorem keyIs_shape : ∀ {k : Key} {v : Value}, keyIs k v = true → (∃ i t, k = Sum.inl i ∧ v = Value.int i t) ∨ (∃ x t, k = Sum.inr x ∧ v = Value.str x t)
  | .inl i, v, h => by
    obtain ⟨t, e⟩ := Value.isInt_shape (k := i) (v := v) h
    exact .inl ⟨i, t, rfl, e⟩
  | .inr x, v, h => by
    obtain ⟨t, e⟩ := Value.isStrOf_shape (x := x) (v := v) h
    exact .inr ⟨x, t, rfl, e⟩
theorem keyIs_int (i : Int) (t : Tok) : keyIs (.inl i) (.int i t) = true := by simp [keyIs, Value.isInt]
theorem keyIs_str (x : Str) (t : Tok) : keyIs (.inr x) (.str x t) = true := by simp [keyIs, Value.isStrOf]
theorem key_ll (a b : Int) : decide ((Sum.inl a : Key) = Sum.inl b) = (a == b) := by
  by_cases e : a = b
  · subst e; simp
  · have h : ¬ (Sum.inl a : Key) = Sum.inl b := fun q => e (Sum.inl.inj q)
    rw [decide_eq_false h]
    exact (beq_eq_false_iff_ne.mpr e).symm
theorem key_rr (a b : Str) : decide ((Sum.inr a : Key) = Sum.inr b) = decide (a = b) := by
  by_cases e : a = b
  · subst e; simp
  · have h : ¬ (Sum.inr a : Key) = Sum.inr b := fun q => e (Sum.inr.inj q)
    rw [decide_eq_false h, decide_eq_false e]
theorem key_lr (a : Int) (b : Str) : decide ((Sum.inl a : Key) = Sum.inr b) = false := decide_eq_false (fun q => nomatch q)
theorem key_rl (a : Str) (b : Int) : decide ((Sum.inr a : Key) = Sum.inl b) = false := decide_eq_false (fun q => nomatch q)

def mixKind (prog : Program) (w : World) : PySem.KeyKind prog w Key where
  is := keyIs
  hash := keyH w
  inj := fun v a b ha hb => by
    rcases keyIs_shape ha with ⟨i, t, rfl, rfl⟩ | ⟨x, t, rfl, rfl⟩
    · rcases keyIs_shape hb with ⟨j, u, rfl, e⟩ | ⟨y, u, rfl, e⟩
      · injection e with e1 _; rw [e1]
      · exact nomatch e
    · rcases keyIs_shape hb with ⟨j, u, rfl, e⟩ | ⟨y, u, rfl, e⟩
      · exact nomatch e
      · injection e with e1 _; rw [e1]
  byValue := fun k v h => by
    rcases keyIs_shape h with ⟨i, t, rfl, rfl⟩ | ⟨x, t, rfl, rfl⟩ <;> rfl
  pyHash := fun hv h => by
    rcases keyIs_shape hv with ⟨i, t, rfl, rfl⟩ | ⟨x, t, rfl, rfl⟩
    · exact wpAny_pyHash_int h
    · exact wpAny_pyHash_str h
  eqBool := fun hu hv h => by
    rcases keyIs_shape hu with ⟨i, t, rfl, rfl⟩ | ⟨x, t, rfl, rfl⟩
    · rcases keyIs_shape hv with ⟨j, u, rfl, rfl⟩ | ⟨y, u, rfl, rfl⟩
      · rw [key_ll] at h; exact wpAny_eqBool_int h
      · rw [key_lr] at h; exact SeqAt.EqAt.int_str i t y u _ _ _ _ h
    · rcases keyIs_shape hv with ⟨j, u, rfl, rfl⟩ | ⟨y, u, rfl, rfl⟩
      · rw [key_rl] at h; exact SeqAt.EqAt.str_int x t j u _ _ _ _ h
      · rw [key_rr] at h; exact wpAny_eqBool_str h
  «strs» := fun k x t v h => by
    rcases keyIs_shape h with ⟨i, u, rfl, e⟩ | ⟨y, u, rfl, e⟩
    · exact nomatch e
    · injection e with e1 _
      subst e1
      cases v <;> rfl

theorem mixKind_int (prog : Program) (w : World) (i : Int) (t : Tok) : (mixKind prog w).is (.inl i) (.int i t) = true := keyIs_int i t
theorem mixKind_str (prog : Program) (w : World) (x : Str) (t : Tok) : (mixKind prog w).is (.inr x) (.str x t) = true := keyIs_str x t
end L2

namespace L2
open PySem PySem.Spec PyProof.Rows

/-- a value, without the heap -/
inductive V where
  | non | bl (b : Bool) | int (i : Int) | str (x : Str) | byt (b : Array UInt8) | flt (b : UInt64) | ref (a : Addr) | ty (n : String)
  deriving DecidableEq

def RelV : V → Value → Prop
  | .non, u => u = Value.none
  | .bl b, u => u = Value.bool b
  | .int i, u => ∃ t, u = Value.int i t
  | .str x, u => ∃ t, u = Value.str x t
  | .byt b, u => ∃ t, u = Value.bytes b t
  | .flt b, u => ∃ t, u = Value.float b t
  | .ref a, u => u = Value.ref a
  | .ty n, u => u = Value.type n

abbrev Vals : List V → List Value → Prop := Paired RelV
theorem Vals.length {xs : List V} {us : List Value} (r : Vals xs us) : xs.length = us.length := Paired.length r
theorem Vals.get : ∀ {xs : List V} {us : List Value} {i : Nat} {x : V}, Vals xs us → xs[i]? = some x → ∃ u, us[i]? = some u ∧ RelV x u
  | _, _, _, _, .nil, e => by simp at e
  | _, _, 0, _, .cons r _, e => by simp at e; subst e; exact ⟨_, rfl, r⟩
  | _, _, i + 1, x, .cons _ t, e => by
    obtain ⟨u, h1, h2⟩ := Vals.get (i := i) (x := x) t (by simpa using e)
    exact ⟨u, by simpa using h1, h2⟩
theorem Vals.append : ∀ {xs ys : List V} {us ws : List Value}, Vals xs us → Vals ys ws → Vals (xs ++ ys) (us ++ ws)
  | _, _, _, _, .nil, s => s
  | _, _, _, _, .cons r t, s => .cons r (Vals.append t s)
theorem Vals.take : ∀ {xs : List V} {us : List Value} (n : Nat), Vals xs us → Vals (xs.take n) (us.take n)
  | _, _, 0, _ => .nil
  | _, _, _ + 1, .nil => .nil
  | _, _, n + 1, .cons r t => .cons r (Vals.take n t)
theorem Vals.drop : ∀ {xs : List V} {us : List Value} (n : Nat), Vals xs us → Vals (xs.drop n) (us.drop n)
  | _, _, 0, r => r
  | _, _, _ + 1, .nil => .nil
  | _, _, n + 1, .cons _ t => Vals.drop n t

def RelO : Option V → Option Value → Prop
  | some v, some u => RelV v u
  | none, none => True
  | _, _ => False
def KV {κ : Type} : List (κ × V) → List (κ × Value) → Prop := Paired fun (p : κ × V) (q : κ × Value) => p.1 = q.1 ∧ RelV p.2 q.2

/-- a key of a dict (00_mix): an int or a text -/
def kV : Key → V
  | .inl i => .int i
  | .inr x => .str x

/-- what stands at a tracked address -/
inductive HO where
  /-- a list -/
  | lst (xs : List V)
  /-- a tuple (never changes) -/
  | tup (xs : List V)
  /-- a dict whose keys are ints and texts; one whose keys are tuples of ints and texts (the empty one is both) -/
  | dK (kvs : List (Key × V)) | dT (kvs : List (List Key × V))
  /-- a set of ints: its members, its size -/
  | set (S : Int → Bool) (n : Nat)
  /-- an instance of the class at C, its dict at dx, its attributes -/
  | ins (C dx : Addr) (fs : List (Str × V))
  /-- the dict of the instance at x -/
  | own (x : Addr)
  /-- the dict of an exception -/
  | xd (fs : List (Str × V))
  /-- a bound method, f of x -/
  | met (f x : Addr)
  /-- a range object lo, lo + 1, .. below hi -/
  | rng (lo hi : Int)
  /-- a thing that is known to the object (the script; a dict while a loop walks it): read, never written while it is so -/
  | frz (o : Obj) (u : HO)
  /-- a code object's table -/
  | tbl (ps : Array Value)
  /-- any other thing, by what is true of its one object (a def of one's own: SetO a S n := HO.ext fun h => ..) -/
  | ext (φ : Heap → Prop)

abbrev Hp := Addr → Option HO
def upd (H : Hp) (a : Addr) (o : HO) : Hp := fun b => if b = a then some o else H b
theorem upd_same {H : Hp} {a : Addr} {o : HO} : upd H a o a = some o := by unfold upd; rw [if_pos rfl]
theorem upd_ne {H : Hp} {a b : Addr} {o : HO} (h : b ≠ a) : upd H a o b = H b := by unfold upd; rw [if_neg h]
theorem upd_upd {H : Hp} {a : Addr} {o u : HO} : upd (upd H a o) a u = upd H a u := by
  funext b; unfold upd; split <;> rfl
/-- two objects of different content stand apart -/
theorem ne_of {H : Hp} {a b : Addr} {o u : HO} (h : H a = some o) (h' : H b = some u) (d : o ≠ u) : a ≠ b := by
  intro e; subst e; rw [h] at h'; exact d (Option.some.inj h')
theorem ne_of_none {H : Hp} {a b : Addr} {o : HO} (h : H a = some o) (h' : H b = none) : a ≠ b := by
  intro e; subst e; rw [h] at h'; cases h'

section
variable (P : Program) (w : World)
def ObjOk (H : Hp) (h : Heap) (a : Addr) : HO → Prop
  | .lst xs => xs.length ≤ sizeLine ∧ ∃ (its : List Value) (n : Nat), Vals xs its ∧ h.get? a = some { cls := .type "list", data := .seq its.toArray n }
  | .tup xs => xs.length ≤ sizeLine ∧ ∃ its : List Value, Vals xs its ∧ IsTup h a its.toArray
  | .dK kvs => kvs.length ≤ sizeLine ∧ (a == sysModules) = false ∧ ∃ vs, KV kvs vs ∧ h.DictOf (mixKind P w) a vs
  | .dT kvs => kvs.length ≤ sizeLine ∧ (a == sysModules) = false ∧ ∃ xs : List (List Key × Addr × Value),
      Paired (fun (p : List Key × V) (q : List Key × Addr × Value) => p.1 = q.1 ∧ H q.2.1 = some (.tup (p.1.map kV)) ∧ RelV p.2 q.2.2) kvs xs ∧
      ∃ o es ep, h.get? a = some o ∧ o.ExactDict ∧ o.data = .dict es ep ∧ es.toList = xs.map (entryOfKey (tupleKind (mixKind P w))) ∧ (xs.map (·.1)).Nodup
  | .set S n => h.SetOf (intKind P w) a S n
  | .ins C dx fs => H dx = some (.own a) ∧ fs.length ≤ 1000 ∧ dx ≠ a ∧ h.get? a = some (PySem.W.instObj C dx) ∧
      ∃ mA, h.Ns1 dx mA ∧ (∀ f, RelO (fs.lookup f) (mA f)) ∧ PySem.Within mA (fs.map (·.1))
  | .own _ => ∃ o, h.get? a = some o
  | .xd fs => ∃ mA, h.Ns1 a mA ∧ ∀ f, RelO (fs.lookup f) (mA f)
  | .rng lo hi => ∃ t u v, h.get? a = some { cls := .type "range", data := .fields #[.int lo t, .int hi u, .int 1 v] }
  | .frz o u => h.get? a = some o ∧ ObjOk H h a u
  | .tbl ps => h.get? a = some { cls := .none, data := .fields ps }
  | .met f x => h.get? a = some (PySem.W.methodObj (.ref f) (.ref x))
  | .ext φ => φ h ∧ (∃ o, h.get? a = some o) ∧ ∀ h1 h2 : Heap, φ h1 → (∀ o, h1.get? a = some o → h2.get? a = some o) → φ h2
/-- the abstract heap is held -/
def HOk (H : Hp) (h : Heap) : Prop := ∀ a o, H a = some o → ObjOk P w H h a o
end

section
variable {P : Program} {w : World} {H H' : Hp} {h h' : Heap} {a : Addr} {o : HO}
theorem ObjOk.lt (x : ObjOk P w H h a o) : a < h.objs.size := by
  cases o with
  | lst xs => obtain ⟨_, _, _, _, e⟩ := x; exact Heap.lt_size e
  | tup xs => obtain ⟨_, _, _, p⟩ := x; exact p.lt
  | dK kvs => obtain ⟨_, _, _, _, o, _, _, e, _⟩ := x; exact Heap.lt_size e
  | dT kvs => obtain ⟨_, _, _, _, o, _, _, e, _⟩ := x; exact Heap.lt_size e
  | set S n => obtain ⟨o, _, _, _, e, _⟩ := x; exact Heap.lt_size e
  | ins C dx fs => obtain ⟨_, _, _, e, _⟩ := x; exact Heap.lt_size e
  | own y => obtain ⟨_, e⟩ := x; exact Heap.lt_size e
  | xd fs => obtain ⟨_, ⟨_, _, _, e, _⟩, _⟩ := x; exact Heap.lt_size e
  | rng lo hi => obtain ⟨_, _, _, e⟩ := x; exact Heap.lt_size e
  | frz ob u => obtain ⟨e, _⟩ := x; exact Heap.lt_size e
  | tbl ps => exact Heap.lt_size (show h.get? a = some _ from x)
  | met f y => exact Heap.lt_size (show h.get? a = some _ from x)
  | ext φ => obtain ⟨_, ⟨_, e⟩, _⟩ := x; exact Heap.lt_size e
theorem Paired.mapP {α β : Type} {F G : α → β → Prop} : ∀ {l₁ : List α} {l₂ : List β}, Paired F l₁ l₂ → (∀ a b, F a b → G a b) → Paired G l₁ l₂
  | _, _, .nil, _ => .nil
  | _, _, .cons r t, f => .cons (f _ _ r) (Paired.mapP t f)
/-- what an object's description leans on: its own object, its own dict, the tuples -/
theorem ObjOk.stay (x : ObjOk P w H h a o) (k : ∀ b u, (b = a ∨ H b = some (.own a)) → h.get? b = some u → h'.get? b = some u)
    (ho : ∀ b, H b = some (.own a) → H' b = some (.own a)) (ht : ∀ b xs, H b = some (.tup xs) → H' b = some (.tup xs)) : ObjOk P w H' h' a o := by
  induction o with
  | lst xs => obtain ⟨z, its, n, r, e⟩ := x; exact ⟨z, its, n, r, k _ _ (.inl rfl) e⟩
  | tup xs => obtain ⟨z, its, r, ob, e, c⟩ := x; exact ⟨z, its, r, ob, k _ _ (.inl rfl) e, c⟩
  | dK kvs => obtain ⟨z, y, vs, r, ob, es, ep, e, c⟩ := x; exact ⟨z, y, vs, r, ob, es, ep, k _ _ (.inl rfl) e, c⟩
  | dT kvs =>
    obtain ⟨z, y, xs, r, ob, es, ep, e, c⟩ := x
    exact ⟨z, y, xs, Paired.mapP r fun p q z => ⟨z.1, ht _ _ z.2.1, z.2.2⟩, ob, es, ep, k _ _ (.inl rfl) e, c⟩
  | set S n => obtain ⟨ob, es, ep, t, e, c⟩ := x; exact ⟨ob, es, ep, t, k _ _ (.inl rfl) e, c⟩
  | ins C dx fs =>
    obtain ⟨d, z, ne, e, mA, ⟨od, es, ep, e2, c⟩, r⟩ := x
    exact ⟨ho _ d, z, ne, k _ _ (.inl rfl) e, mA, ⟨od, es, ep, k _ _ (.inr d) e2, c⟩, r⟩
  | own y => obtain ⟨ob, e⟩ := x; exact ⟨ob, k _ _ (.inl rfl) e⟩
  | xd fs => obtain ⟨mA, ⟨od, es, ep, e, c⟩, r⟩ := x; exact ⟨mA, ⟨od, es, ep, k _ _ (.inl rfl) e, c⟩, r⟩
  | rng lo hi => obtain ⟨t, u, v, e⟩ := x; exact ⟨t, u, v, k _ _ (.inl rfl) e⟩
  | frz ob u ih => obtain ⟨e, q⟩ := x; exact ⟨k _ _ (.inl rfl) e, ih q⟩
  | tbl ps =>
    have e : h.get? a = some { cls := .none, data := .fields ps } := x
    show h'.get? a = some { cls := .none, data := .fields ps }
    exact k a _ (.inl rfl) e
  | met f y =>
    have e : h.get? a = some (PySem.W.methodObj (.ref f) (.ref y)) := x
    show h'.get? a = some (PySem.W.methodObj (.ref f) (.ref y))
    exact k a _ (.inl rfl) e
  | ext φ => obtain ⟨p, ⟨o, e⟩, st⟩ := x; exact ⟨st _ _ p fun o q => k _ _ (.inl rfl) q, ⟨o, k _ _ (.inl rfl) e⟩, st⟩
theorem HOk.lt (x : HOk P w H h) (e : H a = some o) : a < h.objs.size := (x a o e).lt
theorem HOk.fresh (x : HOk P w H h) (e : h.objs.size ≤ a) : H a = none := by
  cases q : H a with
  | none => rfl
  | some u => exact absurd (Nat.lt_of_lt_of_le (x.lt q) e) (Nat.lt_irrefl _)
/-- every object of the heap is kept -/
theorem HOk.kept (x : HOk P w H h) (k : ∀ b u, h.get? b = some u → h'.get? b = some u) : HOk P w H h' := fun a o e =>
  (x a o e).stay (fun b u _ q => k b u q) (fun _ q => q) fun _ _ q => q
/-- a new object is laid and tracked -/
theorem HOk.laid (x : HOk P w H h) (k : ∀ b u, h.get? b = some u → h'.get? b = some u) (hp : h.objs.size ≤ a) (new : ObjOk P w (upd H a o) h' a o) : HOk P w (upd H a o) h' := fun b u e => by
  have hn := x.fresh hp
  by_cases hb : b = a
  · subst hb; rw [upd_same] at e; cases e; exact new
  · rw [upd_ne hb] at e
    exact (x b u e).stay (fun c v _ q => k c v q) (fun c q => by rw [upd_ne (ne_of_none q hn)]; exact q) fun c xs q => by rw [upd_ne (ne_of_none q hn)]; exact q
end

/-- what may be read as u: it is u, or a known u -/
def Rd (H : Hp) (a : Addr) (u : HO) : Prop := H a = some u ∨ ∃ o, H a = some (.frz o u)
theorem Rd.ok {P : Program} {w : World} {H : Hp} {h : Heap} {a : Addr} {u : HO} (r : Rd H a u) (x : HOk P w H h) : ObjOk P w H h a u := by
  rcases r with r | ⟨o, r⟩
  · exact x a u r
  · obtain ⟨_, q⟩ := x a _ r
    exact q
/-- what may be written -/
def Mut : Option HO → Prop
  | some (.lst _) => True
  | some (.dK _) => True
  | some (.dT _) => True
  | some (.set _ _) => True
  | some (.ins _ _ _) => True
  | some (.ext _) => True
  | _ => False
section
variable {P : Program} {w : World} {H : Hp} {h h' : Heap} {x e : Addr} {o' : HO}
/-- the object at e is changed: x itself, or the dict of the instance x -/
theorem HOk.write (ok : HOk P w H h) (mu : Mut (H x)) (he : e = x ∨ H e = some (.own x)) (k : ∀ b u, b ≠ e → h.get? b = some u → h'.get? b = some u) (heo : ∃ u, h'.get? e = some u)
    (new : ObjOk P w (upd H x o') h' x o') : HOk P w (upd H x o') h' := fun b u q => by
  have nown : ∀ c y, H c = some (.own y) → c ≠ x := fun c y r z => by subst z; rw [r] at mu; exact mu
  have ntup : ∀ c xs, H c = some (.tup xs) → c ≠ x := fun c xs r z => by subst z; rw [r] at mu; exact mu
  by_cases hb : b = x
  · subst hb; rw [upd_same] at q; cases q; exact new
  · rw [upd_ne hb] at q
    by_cases hbe : b = e
    · have q' : H b = some (.own x) := by
        rcases he with z | z
        · exact absurd (hbe.trans z) hb
        · rw [hbe]; exact z
      rw [q] at q'; cases q'
      obtain ⟨v, hv⟩ := heo
      exact ⟨v, by rw [hbe]; exact hv⟩
    · refine (ok b u q).stay (fun c v hc r => k c v ?_ r) (fun c r => by rw [upd_ne (nown c b r)]; exact r) fun c xs r => by rw [upd_ne (ntup c xs r)]; exact r
      rcases hc with rfl | hc
      · exact hbe
      · rintro rfl
        rcases he with z | z
        · exact nown c b hc z
        · rw [hc] at z; cases z; exact hb rfl
end

/-! ### kept unless tracked; of the frames at fs (the callers') the slots may change (an exception that passes writes there); of the records at ex (iterators) nothing is said -/
structure Un (fs ex : List Addr) (H H' : Hp) (h h' : Heap) : Prop where
  keep : ∀ b o, h.get? b = some o → H b = none → b ∉ fs → b ∉ ex → h'.get? b = some o
  slot : ∀ b o, h.get? b = some o → H b = none → b ∈ fs → b ∉ ex → ∃ sl, h'.get? b = some { o with slots := sl }
  free : ∀ b o, h.get? b = some o → H b = none → b ∉ ex → H' b = none
  there : ∀ b o, h.get? b = some o → b ∉ ex → ∃ o', h'.get? b = some o'
  tups : ∀ b xs, H b = some (.tup xs) → H' b = some (.tup xs)
  frzs : ∀ b o u, H b = some (.frz o u) → H' b = some (.frz o u)
  tbls : ∀ b ps, H b = some (.tbl ps) → ∃ more, H' b = some (.tbl (ps ++ more))
section
variable {fs fs' ex ex' : List Addr} {H H1 H2 : Hp} {h h1 h2 h' : Heap} {a x e : Addr} {o : HO}
theorem Un.any (u : Un fs ex H H1 h h1) {b : Addr} {ob : Obj} (q : h.get? b = some ob) (n : H b = none) (hx : b ∉ ex) : ∃ sl, h1.get? b = some { ob with slots := sl } := by
  by_cases hb : b ∈ fs
  · exact u.slot b ob q n hb hx
  · exact ⟨ob.slots, u.keep b ob q n hb hx⟩
theorem Un.kept (k : ∀ b u, h.get? b = some u → h'.get? b = some u) : Un fs ex H H h h' :=
  ⟨fun b ob q _ _ _ => k b ob q, fun b ob q _ _ _ => ⟨ob.slots, k b ob q⟩, fun _ _ _ n _ => n, fun b ob q _ => ⟨ob, k b ob q⟩, fun _ _ q => q, fun _ _ _ q => q, fun _ ps q => ⟨#[], by rw [q]; simp⟩⟩
theorem Un.refl : Un fs ex H H h h := Un.kept fun _ _ q => q
theorem Un.laid (k : ∀ b u, h.get? b = some u → h'.get? b = some u) (hp : h.objs.size ≤ a) (hn : H a = none) : Un fs ex H (upd H a o) h h' where
  keep := fun b u q _ _ _ => k b u q
  slot := fun b u q _ _ _ => ⟨u.slots, k b u q⟩
  free := fun b u q n _ => by rw [upd_ne (Nat.ne_of_lt (Nat.lt_of_lt_of_le (Heap.lt_size q) hp))]; exact n
  there := fun b u q _ => ⟨u, k b u q⟩
  tups := fun b xs q => by rw [upd_ne (ne_of_none q hn)]; exact q
  frzs := fun b u xs q => by rw [upd_ne (ne_of_none q hn)]; exact q
  tbls := fun b ps q => ⟨#[], by rw [upd_ne (ne_of_none q hn), q]; simp⟩
theorem Un.write (mu : Mut (H x)) (he : e = x ∨ H e = some (.own x)) (k : ∀ b u, b ≠ e → h.get? b = some u → h'.get? b = some u) (heo : ∃ u, h'.get? e = some u) : Un fs ex H (upd H x o) h h' := by
  have hx : ∀ b, H b = none → b ≠ x := fun b n z => by subst z; rw [n] at mu; exact mu
  have hb : ∀ b, H b = none → b ≠ e := fun b n z => by
    subst z
    rcases he with r | r
    · exact hx b n r
    · rw [n] at r; cases r
  have hm : ∀ b u, H b = some u → ¬ Mut (some u) → b ≠ x := fun b u q nm z => by subst z; rw [q] at mu; exact nm mu
  refine ⟨fun b u q n _ _ => k b u (hb b n) q, fun b u q n _ _ => ⟨u.slots, k b u (hb b n) q⟩, fun b u q n _ => by rw [upd_ne (hx b n)]; exact n, fun b u q _ => ?_,
    fun b xs q => by rw [upd_ne (hm b _ q fun z => z)]; exact q, fun b u xs q => by rw [upd_ne (hm b _ q fun z => z)]; exact q, fun b ps q => ⟨#[], by rw [upd_ne (hm b _ q fun z => z), q]; simp⟩⟩
  by_cases hbe : b = e
  · subst hbe; exact heo
  · exact ⟨u, k b u hbe q⟩
end

/-! ### the heap without what is tracked -/
def trk (h : Heap) (H : Hp) : List Addr := (List.range h.objs.size).filter fun a => (H a).isSome
def hidT (h : Heap) (H : Hp) : Heap := PySem.W.hideAll h (trk h H)
theorem hidT_size (h : Heap) (H : Hp) : (hidT h H).objs.size = h.objs.size := PySem.W.hideAll_size _ _
theorem hidT_get {h : Heap} {H : Hp} {b : Addr} {o : Obj} (e : h.get? b = some o) (n : H b = none) : (hidT h H).get? b = some o :=
  PySem.W.hideAll_get _ e fun hm => by
    have q : (H b).isSome = true := (List.mem_filter.mp hm).2
    rw [n] at q; simp at q
theorem of_hidT {h : Heap} {H : Hp} {b : Addr} {o : Obj} (e : (hidT h H).get? b = some o) : h.get? b = some o ∧ H b = none := by
  have e' : h.get? b = some o := PySem.W.of_hideAll (trk h H) e
  refine ⟨e', ?_⟩
  cases q : H b with
  | none => rfl
  | some x =>
    have hm : b ∈ trk h H := List.mem_filter.mpr ⟨List.mem_range.mpr (Heap.lt_size e'), by simp [q]⟩
    have z : (hidT h H).get? b = none := PySem.W.hideAll_none (trk h H) hm
    rw [z] at e; cases e

/-! ### OpenK's ledger, filled with every new object but one -/
end L2

namespace L2
open PySem PySem.Spec PyProof.Rows

/-- the module's facts, over the base: the heap at the law's entry without what is tracked there -/
structure Mod (K : PySem.W.Frag) (mg : Str → Option Value) (base : Heap) : Prop where
  kin : K.In base
  glob : base.Ns mainGlobals mg
  blt : ∃ mb, base.Ns builtinsNs mb ∧ ∀ x : Str, x ≠ "__name__" → mb x = bootBuiltins x
  nolimit : base.NoLimit

/-- the context: a def's body (or a comprehension's block) running. base: fixed through the whole law; s₀, H₀: the entry; outer: the frames whose slots others may change (a def's callers); stack: all frames that run;
   ex: iterators that were made ahead of the entry and are walked here (a comprehension's); fn: the names whose cells were made at the entry (a def: all; a comprehension's block: its own); calm: not within an except suite; pn: pins that every state bears; xe: what is wanted of an exception that leaves the code -/
structure Cx where
  prog : Program
  w : World
  K : PySem.W.Frag
  mg : Str → Option Value
  base : Heap
  A : Around
  N : List Str
  s_0 : Shared
  H_0 : Hp
  env : Env
  outer : List Env
  stack : List Env
  ex : List Addr
  fn : Str → Bool
  calm : Bool
  pn : List (Addr × Obj)
  xe : Value → Shared → Prop
/-- the callers' frames -/
def frs (l : List Env) : List Addr := l.filterMap (·.frame)
abbrev Cx.fs (X : Cx) : List Addr := frs X.outer

def Vis (sc : Scope) (x : Str) : Prop := sc.names.lookup x = some .local ∨ sc.names.lookup x = some .cell ∨ sc.names.lookup x = some .free
def Loc (sc : Scope) (x : Str) : Prop := sc.names.lookup x = some .local ∨ sc.names.lookup x = some .cell
def Look (env : Env) (h : Heap) (m : Str → Option Value) (x : Str) (u : Value) : Prop :=
  (env.kindOf x = some .local ∧ m x = some u) ∨ ((env.kindOf x = some .cell ∨ env.kindOf x = some .free) ∧ ∃ c, env.cells.lookup x = some c ∧ h.IsCell c (some u))

structure Cx.Ok (X : Cx) : Prop where
  mod : Mod X.K X.mg X.base
  kind : X.env.scope.kind = .function
  glob : X.env.globals = mainGlobals
  blt : X.env.builtins = builtinsNs
  above : X.s_0.heap.objs.size ≤ X.env.locals
  inj : ∀ x y c, X.env.cells.lookup x = some c → X.env.cells.lookup y = some c → x = y
  has : ∀ x, (X.env.kindOf x = some .cell ∨ X.env.kindOf x = some .free) → ∃ c, X.env.cells.lookup x = some c
  cab : ∀ x c, X.fn x = true → X.env.cells.lookup x = some c → X.s_0.heap.objs.size ≤ c
  hd : X.calm = true → X.A.handled = none
  frames : X.A.frames = some X.stack
  stk : X.stack = X.outer ∨ (X.stack = X.env :: X.outer ∧ X.env.frame = some X.env.locals)
  exf : ∀ b ∈ X.ex, b ≠ X.env.locals ∧ ∀ x c, X.env.cells.lookup x = some c → c ≠ b
  bs : ∀ b o, X.base.get? b = some o → X.s_0.heap.get? b = some o ∧ X.H_0 b = none
  bsz : X.base.objs.size ≤ X.s_0.heap.objs.size
  noex : ∀ b o, X.base.get? b = some o → b ∉ X.ex
  exfs : ∀ b ∈ X.ex, b ∉ X.fs
  funs : X.s_0.heap.FunFrames X.base X.outer
  frf : ∀ b ∈ X.fs, X.H_0 b = none

structure Inv (X : Cx) (pins : List (Addr × Obj)) (σ : List (Option V)) (H : Hp) (s : Shared) : Prop where
  ok : X.Ok
  os : s.os = X.s_0.os
  bare : AllBare s.gens
  base : Un X.fs X.ex X.H_0 H X.s_0.heap s.heap
  loc : ∃ m, s.heap.Ns X.env.locals m ∧ ∀ (i : Nat) (x : Str) (v : V), X.N[i]? = some x → σ[i]? = some (some v) → Vis X.env.scope x → ∃ u, RelV v u ∧ Look X.env s.heap m x u
  cell : ∀ x c, X.env.cells.lookup x = some c → ∃ v, s.heap.IsCell c v
  free : H X.env.locals = none
  freeC : ∀ x c, X.env.cells.lookup x = some c → H c = none
  pin : ∀ p ∈ X.pn ++ pins, s.heap.get? p.1 = some p.2 ∧ H p.1 = none ∧ p.1 ≠ X.env.locals ∧ p.1 ∉ X.fs ∧ ∀ v, p.2.data ≠ .cell v
  hok : HOk X.prog X.w H s.heap
  len : σ.length = X.N.length

section
variable {X : Cx} {pins : List (Addr × Obj)} {σ : List (Option V)} {H H' : Hp} {s : Shared} {h' : Heap}

theorem Cx.Ok.nofr (ok : X.Ok) {b : Addr} {o : Obj} (e : X.base.get? b = some o) : b ∉ X.fs := fun hb => by
  have := (ok.funs.mem hb).1
  rw [e] at this; cases this
theorem Inv.bs (I : Inv X pins σ H s) : ∀ b o, X.base.get? b = some o → s.heap.get? b = some o ∧ H b = none := fun b o e =>
  ⟨I.base.keep b o (I.ok.bs b o e).1 (I.ok.bs b o e).2 (I.ok.nofr e) (I.ok.noex b o e), I.base.free b o (I.ok.bs b o e).1 (I.ok.bs b o e).2 (I.ok.noex b o e)⟩
theorem Inv.bk (I : Inv X pins σ H s) : ∀ b o, X.base.get? b = some o → s.heap.get? b = some o := fun b o e => (I.bs b o e).1
theorem Inv.mod (I : Inv X pins σ H s) : Mod X.K X.mg X.base := I.ok.mod
theorem Inv.kIn (I : Inv X pins σ H s) : X.K.In s.heap := I.ok.mod.kin.keeps I.bk
theorem Inv.lt (I : Inv X pins σ H s) : X.env.locals < s.heap.objs.size := let ⟨_, hn, _⟩ := I.loc; hn.lt
theorem Inv.sz (I : Inv X pins σ H s) : X.s_0.heap.objs.size ≤ s.heap.objs.size := Nat.le_trans I.ok.above (Nat.le_of_lt I.lt)
theorem Inv.nofs (I : Inv X pins σ H s) {a : Addr} (h : s.heap.objs.size ≤ a) : a ∉ X.fs := fun hb => by
  obtain ⟨_, o, ho, _⟩ := I.ok.funs.mem hb
  exact absurd (Nat.lt_of_lt_of_le (Heap.lt_size ho) (Nat.le_trans I.sz h)) (Nat.lt_irrefl _)
theorem Inv.cne (I : Inv X pins σ H s) : ∀ x c, X.env.cells.lookup x = some c → c ≠ X.env.locals := fun x c e z => by
  obtain ⟨v, o, ho, hd⟩ := I.cell x c e
  obtain ⟨m, ⟨o', es, ep, ho', hd', _⟩, _⟩ := I.loc
  rw [z, ho'] at ho; cases ho; rw [hd'] at hd; cases hd
theorem Inv.funs (I : Inv X pins σ H s) : s.heap.FunFrames X.base X.outer := by
  have all : ∀ (l : List Env), (∀ b ∈ frs l, b ∈ X.fs) → X.s_0.heap.FunFrames X.base l → s.heap.FunFrames X.base l := by
    intro l
    induction l with
    | nil => intro _ _; trivial
    | cons env r ih =>
      intro hs hl
      obtain ⟨hk, ⟨L, o, hf, hn, ho, hd⟩, hr⟩ := hl
      have hL : L ∈ X.fs := hs L (by unfold frs; rw [List.filterMap_cons, hf]; exact List.mem_cons_self)
      obtain ⟨sl, e⟩ := I.base.slot L o ho (I.ok.frf L hL) hL fun z => I.ok.exfs L z hL
      exact ⟨hk, ⟨L, _, hf, hn, e, hd⟩, ih (fun b hb => hs b (by unfold frs; rw [List.filterMap_cons, hf]; exact List.mem_cons_of_mem _ hb)) hr⟩
  exact all X.outer (fun _ hb => hb) I.ok.funs

/-- the frames that run, for a call -/
theorem Inv.stack (I : Inv X pins σ H s) : s.heap.FunFrames X.base X.stack := by
  rcases I.ok.stk with e | ⟨e, hf⟩
  · rw [e]; exact I.funs
  · rw [e]
    obtain ⟨m, hn, _⟩ := I.loc
    refine .cons (by rw [I.ok.kind]; decide) hf hn ?_ I.funs
    exact Heap.get?_none_of_le (Nat.le_trans I.ok.bsz I.ok.above)
theorem Inv.stkSub (I : Inv X pins σ H s) : ∀ b ∈ frs X.stack, b ∈ X.env.locals :: X.fs := fun b hb => by
  rcases I.ok.stk with e | ⟨e, hf⟩
  · rw [e] at hb; exact List.mem_cons_of_mem _ hb
  · rw [e] at hb
    unfold frs at hb
    rw [List.filterMap_cons, hf] at hb
    exact hb
theorem Inv.stkFree (I : Inv X pins σ H s) : ∀ b ∈ frs X.stack, H b = none := fun b hb => by
  rcases List.mem_cons.mp (I.stkSub b hb) with e | hb
  · rw [e]; exact I.free
  · obtain ⟨_, o, ho, _⟩ := I.ok.funs.mem hb
    exact I.base.free b o ho (I.ok.frf b hb) fun z => I.ok.exfs b z hb

/-- THE STEP: the untracked objects but the frame and the records at ch are kept (the callers' frames up to slots), the frame's map is kept, the new abstract heap is held -/
theorem Inv.step {g' : Array GenState} {t' : Nat} {d' : Drawn} {ch : List Addr} (I : Inv X pins σ H s)
    (hch : ∀ b ∈ ch, (b ∈ X.ex ∨ X.s_0.heap.objs.size ≤ b) ∧ b ≠ X.env.locals ∧ (∀ x c, X.env.cells.lookup x = some c → c ≠ b) ∧ ∀ p ∈ X.pn ++ pins, p.1 ≠ b)
    (keep : ∀ b o, b ≠ X.env.locals → b ∉ X.fs → b ∉ ch → s.heap.get? b = some o → H b = none → h'.get? b = some o)
    (slot : ∀ b o, b ≠ X.env.locals → b ∈ X.fs → b ∉ ch → s.heap.get? b = some o → H b = none → ∃ sl, h'.get? b = some { o with slots := sl }) (free : ∀ b o, b ∉ ch → s.heap.get? b = some o → H b = none → H' b = none)
    (there : ∀ b o, b ∉ ch → s.heap.get? b = some o → ∃ o', h'.get? b = some o')
    (tups : ∀ b xs, H b = some (.tup xs) → H' b = some (.tup xs)) (frzs : ∀ b o u, H b = some (.frz o u) → H' b = some (.frz o u)) (tbls : ∀ b ps, H b = some (.tbl ps) → ∃ more, H' b = some (.tbl (ps ++ more)))
    (ns : ∀ m, s.heap.Ns X.env.locals m → h'.Ns X.env.locals m) (hok : HOk X.prog X.w H' h') (hg : AllBare g') :
    Inv X pins σ H' { s with heap := h', gens := g', drawn := d', toks := t' } := by
  have neL : ∀ b o, X.s_0.heap.get? b = some o → b ≠ X.env.locals := fun b o e => Nat.ne_of_lt (Nat.lt_of_lt_of_le (Heap.lt_size e) I.ok.above)
  have neC : ∀ b o, X.s_0.heap.get? b = some o → b ∉ X.ex → b ∉ ch := fun b o e hx hb => by
    rcases (hch b hb).1 with z | z
    · exact hx z
    · exact absurd (Nat.lt_of_lt_of_le (Heap.lt_size e) z) (Nat.lt_irrefl _)
  have cellK : ∀ x c, X.env.cells.lookup x = some c → ∀ v, s.heap.IsCell c v → h'.IsCell c v := fun x c e v ⟨o, ho, hd⟩ => by
    have nch : c ∉ ch := fun z => (hch c z).2.2.1 x c e rfl
    by_cases hc : c ∈ X.fs
    · obtain ⟨sl, q⟩ := slot c o (I.cne x c e) hc nch ho (I.freeC x c e)
      exact ⟨_, q, hd⟩
    · exact ⟨o, keep c o (I.cne x c e) hc nch ho (I.freeC x c e), hd⟩
  refine ⟨I.ok, I.os, hg, ⟨fun b o e n hb hx => ?_, fun b o e n hb hx => ?_, fun b o e n hx => ?_, fun b o e hx => ?_, fun b xs e => tups b xs (I.base.tups b xs e), fun b o xs e => frzs b o xs (I.base.frzs b o xs e), fun b ps e => ?_⟩, ?_, fun x c e => ?_, ?_, fun x c e => ?_, fun p hp => ?_, hok, I.len⟩
  · exact keep b o (neL b o e) hb (neC b o e hx) (I.base.keep b o e n hb hx) (I.base.free b o e n hx)
  · obtain ⟨sl, e1⟩ := I.base.slot b o e n hb hx
    obtain ⟨sl', e2⟩ := slot b _ (neL b o e) hb (neC b o e hx) e1 (I.base.free b o e n hx)
    exact ⟨sl', e2⟩
  · obtain ⟨o', e1⟩ := I.base.there b o e hx
    exact free b o' (neC b o e hx) e1 (I.base.free b o e n hx)
  · obtain ⟨o', e1⟩ := I.base.there b o e hx
    exact there b o' (neC b o e hx) e1
  · obtain ⟨m1, e1⟩ := I.base.tbls b ps e
    obtain ⟨m2, e2⟩ := tbls b _ e1
    exact ⟨m1 ++ m2, by rw [e2, Array.append_assoc]⟩
  · obtain ⟨m, hn, hl⟩ := I.loc
    refine ⟨m, ns m hn, fun i x v e1 e2 e3 => ?_⟩
    obtain ⟨u, r, l⟩ := hl i x v e1 e2 e3
    refine ⟨u, r, ?_⟩
    rcases l with l | ⟨k, c, e, z⟩
    · exact .inl l
    · exact .inr ⟨k, c, e, cellK x c e _ z⟩
  · obtain ⟨v, z⟩ := I.cell x c e
    exact ⟨v, cellK x c e v z⟩
  · obtain ⟨m, ⟨o, _, _, ho, _⟩, _⟩ := I.loc
    exact free _ o (fun z => (hch _ z).2.1 rfl) ho I.free
  · obtain ⟨v, o, ho, hd⟩ := I.cell x c e
    exact free c o (fun z => (hch c z).2.2.1 x c e rfl) ho (I.freeC x c e)
  · obtain ⟨e, n, ne, nf, d⟩ := I.pin p hp
    have nch : p.1 ∉ ch := fun z => (hch p.1 z).2.2.2 p hp rfl
    exact ⟨keep p.1 p.2 ne nf nch e n, free p.1 p.2 nch e n, ne, nf, d⟩
/-- .. where the frame's own object is kept too -/
theorem Inv.un {t' : Nat} (I : Inv X pins σ H s) (u : Un X.fs [] H H' s.heap h') (hok : HOk X.prog X.w H' h') : Inv X pins σ H' { s with heap := h', toks := t' } := by
  obtain ⟨m, ⟨o, es, ep, ho, r⟩, _⟩ := id I.loc
  obtain ⟨sl, hL⟩ := u.any ho I.free (by simp)
  exact I.step (g' := s.gens) (d' := s.drawn) (ch := []) (fun _ z => nomatch z) (fun b o _ hb _ e n => u.keep b o e n hb (by simp)) (fun b o _ hb _ e n => u.slot b o e n hb (by simp)) (fun b o _ e n => u.free b o e n (by simp)) (fun b o _ e => u.there b o e (by simp)) u.tups u.frzs u.tbls (fun m' hm => by
    obtain ⟨o', es', ep', ho', r'⟩ := hm
    rw [ho] at ho'; cases ho'
    exact ⟨_, es', ep', hL, r'⟩) hok I.bare
/-- behind a call (or a comprehension's block): the slots of this frame may have changed too, the records at ch may have turned -/
theorem Inv.call {g' : Array GenState} {t' : Nat} {d' : Drawn} {ch : List Addr} (I : Inv X pins σ H s) (u : Un (frs X.stack) ch H H' s.heap h') (hok : HOk X.prog X.w H' h') (hg : AllBare g')
    (hch : ∀ b ∈ ch, (b ∈ X.ex ∨ X.s_0.heap.objs.size ≤ b) ∧ b ≠ X.env.locals ∧ (∀ x c, X.env.cells.lookup x = some c → c ≠ b) ∧ ∀ p ∈ X.pn ++ pins, p.1 ≠ b) :
    Inv X pins σ H' { s with heap := h', gens := g', drawn := d', toks := t' } := by
  obtain ⟨m, ⟨o, es, ep, ho, r⟩, _⟩ := id I.loc
  obtain ⟨sl, hL⟩ := u.any ho I.free fun z => (hch _ z).2.1 rfl
  exact I.step (ch := ch) hch (fun b o hL hb hc e n => u.keep b o e n (fun z => (List.mem_cons.mp (I.stkSub b z)).elim hL hb) hc) (fun b o _ _ hc e n => u.any e n hc) (fun b o hc e n => u.free b o e n hc) (fun b o hc e => u.there b o e hc) u.tups u.frzs u.tbls (fun m' hm => by
    obtain ⟨o', es', ep', ho', r'⟩ := hm
    rw [ho] at ho'; cases ho'
    exact ⟨_, es', ep', hL, r'⟩) hok hg
/-- an untracked record of ours (an iterator) has turned -/
theorem Inv.turned {t' : Nat} {it : Addr} (I : Inv X pins σ H s) (k : ∀ b o, b ≠ it → s.heap.get? b = some o → h'.get? b = some o) (hn : H it = none) (hL : it ≠ X.env.locals)
    (h1 : it ∈ X.ex ∨ X.s_0.heap.objs.size ≤ it) (h2 : ∀ x c, X.env.cells.lookup x = some c → c ≠ it) (h3 : ∀ p ∈ X.pn ++ pins, p.1 ≠ it) : Inv X pins σ H { s with heap := h', toks := t' } := by
  have nit : ∀ b u, H b = some u → b ≠ it := fun b u e z => by rw [z, hn] at e; cases e
  refine I.step (g' := s.gens) (d' := s.drawn) (ch := [it]) (fun b hb => ?_) (fun b o _ _ hc e _ => k b o (fun z => hc (by simp [z])) e) (fun b o _ _ hc e _ => ⟨o.slots, k b o (fun z => hc (by simp [z])) e⟩) (fun _ _ _ _ n => n)
    (fun b o hc e => ⟨o, k b o (fun z => hc (by simp [z])) e⟩) (fun _ _ e => e) (fun _ _ _ e => e) (fun b ps e => ⟨#[], by rw [e]; simp⟩) (fun m hm => ?_) (fun b u e => ?_) I.bare
  · have e : b = it := by simpa using hb
    subst e
    exact ⟨h1, hL, h2, h3⟩
  · obtain ⟨o, es, ep, ho, r⟩ := hm
    exact ⟨o, es, ep, k _ o (Ne.symm hL) ho, r⟩
  · refine (I.hok b u e).stay (fun c v hc q => k c v ?_ q) (fun _ q => q) fun _ _ q => q
    rcases hc with z | z
    · rw [z]; exact nit b u e
    · exact nit c _ z
theorem Inv.tok (I : Inv X pins σ H s) (t : Nat) : Inv X pins σ H { s with toks := t } := I.un (h' := s.heap) (t' := t) Un.refl I.hok
/-- all objects kept -/
theorem Inv.kept {t' : Nat} (I : Inv X pins σ H s) (k : ∀ b u, s.heap.get? b = some u → h'.get? b = some u) : Inv X pins σ H { s with heap := h', toks := t' } := I.un (Un.kept k) (I.hok.kept k)
/-- a new object laid and tracked -/
theorem Inv.laid {a : Addr} {o : HO} {t' : Nat} (I : Inv X pins σ H s) (k : ∀ b u, s.heap.get? b = some u → h'.get? b = some u) (hp : s.heap.objs.size ≤ a) (new : ObjOk X.prog X.w (upd H a o) h' a o) :
    Inv X pins σ (upd H a o) { s with heap := h', toks := t' } := I.un (Un.laid k hp (I.hok.fresh hp)) (I.hok.laid k hp new)
/-- an object written -/
theorem Inv.write {x e : Addr} {o : HO} {t' : Nat} (I : Inv X pins σ H s) (mu : Mut (H x)) (he : e = x ∨ H e = some (.own x)) (k : ∀ b u, b ≠ e → s.heap.get? b = some u → h'.get? b = some u) (heo : ∃ u, h'.get? e = some u)
    (new : ObjOk X.prog X.w (upd H x o) h' x o) : Inv X pins σ (upd H x o) { s with heap := h', toks := t' } := I.un (Un.write mu he k heo) (I.hok.write mu he k heo new)
/-- forgetting slots, pins -/
theorem Inv.weak {σ' : List (Option V)} (I : Inv X pins σ H s) (hl : σ'.length = σ.length) (w : ∀ (i : Nat) v, σ'[i]? = some (some v) → σ[i]? = some (some v)) : Inv X pins σ' H s :=
  ⟨I.ok, I.os, I.bare, I.base, let ⟨m, hn, hl'⟩ := I.loc; ⟨m, hn, fun i x v e1 e2 e3 => hl' i x v e1 (w i v e2) e3⟩, I.cell, I.free, I.freeC, I.pin, I.hok, hl.trans I.len⟩
theorem Inv.pins_of {pins' : List (Addr × Obj)} (I : Inv X pins σ H s) (h : ∀ p ∈ pins', s.heap.get? p.1 = some p.2 ∧ H p.1 = none ∧ p.1 ≠ X.env.locals ∧ p.1 ∉ X.fs ∧ ∀ v, p.2.data ≠ .cell v) : Inv X pins' σ H s :=
  ⟨I.ok, I.os, I.bare, I.base, I.loc, I.cell, I.free, I.freeC, fun p hp => (List.mem_append.mp hp).elim (fun z => I.pin p (List.mem_append_left _ z)) (h p), I.hok, I.len⟩

theorem nodup_ix {N : List Str} (hN : N.Nodup) {i j : Nat} {x : Str} (a : N[i]? = some x) (b : N[j]? = some x) : i = j := by
  obtain ⟨h1, e1⟩ := List.getElem?_eq_some_iff.mp a
  obtain ⟨h2, e2⟩ := List.getElem?_eq_some_iff.mp b
  exact (List.getElem_inj hN).mp (e1.trans e2.symm)

/-- a name is stored; what changed -/
theorem store_ok2 {M : Model} {A : Around} {E : Value → Shared → Prop} {i : Nat} {x : Str} {v : V} {u : Value} {Q : Unit → Shared → Prop} (I : Inv X pins σ H s) (hN : X.N.Nodup) (hi : X.N[i]? = some x) (hx : Loc X.env.scope x) (r : RelV v u)
    (h : ∀ s', Inv X pins (σ.set i (some v)) H s' → (∃ a, Heap.SameBut a s.heap s'.heap ∧ (a = X.env.locals ∨ X.env.cells.lookup x = some a)) → Q () s') (hf : X.fn x = true ∨ X.env.scope.names.lookup x = some .local := by first | exact .inl rfl | exact .inr rfl | assumption) : wpAny M A (storeName X.env x u) Q E s := by
  obtain ⟨m, hn, hl⟩ := id I.loc
  have hcls : (X.env.scope.kind == .class || (X.env.scope.kind == .module && X.env.locals != X.env.globals)) = false := by rw [I.ok.kind]; rfl
  have hiσ : i < σ.length := by rw [I.len]; exact (List.getElem?_eq_some_iff.mp hi).1
  have cne := I.cne
  have tracked : ∀ {a : Addr} {h' : Heap}, (∃ o, s.heap.get? a = some o ∧ H a = none) → Heap.SameBut a s.heap h' → HOk X.prog X.w H h' := fun {a h'} ha hs b ob e => by
    obtain ⟨_, _, hfree⟩ := ha
    refine (I.hok b ob e).stay (fun c w' hc q => (hs.2 c ?_).trans q) (fun _ q => q) fun _ _ q => q
    rintro rfl
    rcases hc with rfl | hc
    · rw [hfree] at e; cases e
    · rw [hfree] at hc; cases hc
  rcases hx with hk | hk
  · refine wpAny_storeName_local hk hn (fun h' hn' hs => ?_) hcls
    obtain ⟨oL, _, _, hoL, _⟩ := id hn
    refine h _ ⟨I.ok, I.os, I.bare, ⟨fun b o e n hb hx => ?_, fun b o e n hb hx => ?_, I.base.free, fun b o e hx => ?_, I.base.tups, I.base.frzs, I.base.tbls⟩, ⟨_, hn', fun j y v' e1 e2 e3 => ?_⟩, fun y c e => ?_, I.free, I.freeC, fun p hp => ?_, tracked ⟨oL, hoL, I.free⟩ hs, by simpa using I.len⟩ ⟨_, hs, .inl rfl⟩
    · exact (hs.2 b (Nat.ne_of_lt (Nat.lt_of_lt_of_le (Heap.lt_size e) I.ok.above))).trans (I.base.keep b o e n hb hx)
    · obtain ⟨sl, e1⟩ := I.base.slot b o e n hb hx
      exact ⟨sl, (hs.2 b (Nat.ne_of_lt (Nat.lt_of_lt_of_le (Heap.lt_size e) I.ok.above))).trans e1⟩
    · obtain ⟨o', e1⟩ := I.base.there b o e hx
      exact ⟨o', (hs.2 b (Nat.ne_of_lt (Nat.lt_of_lt_of_le (Heap.lt_size e) I.ok.above))).trans e1⟩
    · by_cases hj : j = i
      · subst hj
        rw [hi] at e1; cases e1
        rw [List.getElem?_set_self hiσ] at e2
        cases e2
        exact ⟨u, r, .inl ⟨hk, by simp⟩⟩
      · rw [List.getElem?_set_ne (Ne.symm hj)] at e2
        obtain ⟨u', r', q⟩ := hl j y v' e1 e2 e3
        refine ⟨u', r', ?_⟩
        rcases q with ⟨k, e⟩ | ⟨k, c, e, z⟩
        · refine .inl ⟨k, ?_⟩
          have : y ≠ x := fun e => hj (nodup_ix hN e1 (e ▸ hi))
          simp [this, e]
        · exact .inr ⟨k, c, e, z.sameBut hs (cne y c e)⟩
    · obtain ⟨w', z⟩ := I.cell y c e
      exact ⟨w', z.sameBut hs (cne y c e)⟩
    · obtain ⟨e, n, ne, nf, d⟩ := I.pin p hp
      exact ⟨(hs.2 p.1 ne).trans e, n, ne, nf, d⟩
  · have hfn : X.fn x = true := by
      rcases hf with z | z
      · exact z
      · rw [z] at hk; cases hk
    obtain ⟨c, hc⟩ := I.ok.has x (.inl hk)
    obtain ⟨w', z⟩ := I.cell x c hc
    refine wpAny_storeName_cell I.ok.kind hk hc z (fun h' hc' hs => ?_)
    obtain ⟨oc, hoc, hocd⟩ := id z
    refine h { s with heap := h' } ⟨I.ok, I.os, I.bare, ⟨fun b o e n hb hx => ?_, fun b o e n hb hx => ?_, I.base.free, fun b o e hx => ?_, I.base.tups, I.base.frzs, I.base.tbls⟩, ⟨m, hn.sameBut hs (Ne.symm (cne x c hc)), fun j y v' e1 e2 e3 => ?_⟩, fun y c' e => ?_, I.free, I.freeC, fun p hp => ?_, tracked ⟨oc, hoc, I.freeC x c hc⟩ hs, by simpa using I.len⟩ ⟨c, hs, .inr hc⟩
    · exact (hs.2 b (Nat.ne_of_lt (Nat.lt_of_lt_of_le (Heap.lt_size e) (I.ok.cab x c hfn hc)))).trans (I.base.keep b o e n hb hx)
    · obtain ⟨sl, e1⟩ := I.base.slot b o e n hb hx
      exact ⟨sl, (hs.2 b (Nat.ne_of_lt (Nat.lt_of_lt_of_le (Heap.lt_size e) (I.ok.cab x c hfn hc)))).trans e1⟩
    · obtain ⟨o', e1⟩ := I.base.there b o e hx
      exact ⟨o', (hs.2 b (Nat.ne_of_lt (Nat.lt_of_lt_of_le (Heap.lt_size e) (I.ok.cab x c hfn hc)))).trans e1⟩
    · by_cases hj : j = i
      · subst hj
        rw [hi] at e1; cases e1
        rw [List.getElem?_set_self hiσ] at e2
        cases e2
        exact ⟨u, r, .inr ⟨.inl hk, c, hc, hc'⟩⟩
      · rw [List.getElem?_set_ne (Ne.symm hj)] at e2
        obtain ⟨u', r', q⟩ := hl j y v' e1 e2 e3
        refine ⟨u', r', ?_⟩
        rcases q with q | ⟨k, c', e, z'⟩
        · exact .inl q
        · refine .inr ⟨k, c', e, z'.sameBut hs ?_⟩
          rintro rfl
          exact hj (nodup_ix hN e1 (I.ok.inj _ _ _ e hc ▸ hi))
    · by_cases hcc : c' = c
      · subst hcc; exact ⟨_, hc'⟩
      · obtain ⟨w2, z2⟩ := I.cell y c' e
        exact ⟨w2, z2.sameBut hs hcc⟩
    · obtain ⟨e, n, ne, nf, d⟩ := I.pin p hp
      refine ⟨(hs.2 p.1 ?_).trans e, n, ne, nf, d⟩
      intro q
      rw [q, hoc] at e
      have q' : oc = p.2 := Option.some.inj e
      exact d w' (by rw [← q']; exact hocd)
theorem store_ok {M : Model} {A : Around} {E : Value → Shared → Prop} {i : Nat} {x : Str} {v : V} {u : Value} {Q : Unit → Shared → Prop} (I : Inv X pins σ H s) (hN : X.N.Nodup) (hi : X.N[i]? = some x) (hx : Loc X.env.scope x) (r : RelV v u)
    (h : ∀ s', Inv X pins (σ.set i (some v)) H s' → Q () s') (hf : X.fn x = true ∨ X.env.scope.names.lookup x = some .local := by first | exact .inl rfl | exact .inr rfl | assumption) : wpAny M A (storeName X.env x u) Q E s :=
  store_ok2 I hN hi hx r (fun s' I' _ => h s' I') hf
/-- behind a call or a block, the state as it is -/
theorem Inv.call' {s' : Shared} {ch : List Addr} (I : Inv X pins σ H s) (ho : s'.os = s.os) (u : Un (frs X.stack) ch H H' s.heap s'.heap) (hok : HOk X.prog X.w H' s'.heap) (hg : AllBare s'.gens)
    (hch : ∀ b ∈ ch, (b ∈ X.ex ∨ X.s_0.heap.objs.size ≤ b) ∧ b ≠ X.env.locals ∧ (∀ x c, X.env.cells.lookup x = some c → c ≠ b) ∧ ∀ p ∈ X.pn ++ pins, p.1 ≠ b) : Inv X pins σ H' s' := by
  obtain ⟨h', g', d', t', o'⟩ := s'
  have e : o' = s.os := ho
  subst e
  exact I.call (g' := g') (t' := t') (d' := d') u hok hg hch
end

/-! ### the judgements -/
/-- an exception: its class, its own dict's address (where it has one), the abstract heap behind it -/
abbrev XK := Value → Option Addr → Hp → Prop
abbrev St := List (Option V)
abbrev VK := V → Hp → Prop
/-- an expression's reading; a test's; an argument list's -/
abbrev TE := St → Hp → VK → Prop
abbrev TT := St → Hp → (Bool → Hp → Prop) → Prop
abbrev TA := St → Hp → (List V → Hp → Prop) → Prop
/-- what is wanted behind a statement -/
structure Ends where
  nx : St → Hp → Prop
  rt : VK
  bk : St → Hp → Prop := fun _ _ => False
  ct : St → Hp → Prop := fun _ _ => False
abbrev TS := Ends → St → Hp → Prop

def EP (X : Cx) (pins : List (Addr × Obj)) (σ : St) (Q : VK) (u : Value) (s' : Shared) : Prop := ∃ v H', Inv X pins σ H' s' ∧ RelV v u ∧ Q v H'
def TP (X : Cx) (pins : List (Addr × Obj)) (σ : St) (Q : Bool → Hp → Prop) (b : Bool) (s' : Shared) : Prop := ∃ H', Inv X pins σ H' s' ∧ Q b H'
def AP (X : Cx) (pins : List (Addr × Obj)) (σ : St) (Q : List V → Hp → Prop) (us : List Value) (s' : Shared) : Prop := ∃ vs H', Inv X pins σ H' s' ∧ Vals vs us ∧ Q vs H'
def SP (X : Cx) (pins : List (Addr × Obj)) (D : Ends) (f : Flow) (s' : Shared) : Prop :=
  match f with
  | .next => ∃ σ' H', Inv X pins σ' H' s' ∧ D.nx σ' H'
  | .brk => ∃ σ' H', Inv X pins σ' H' s' ∧ D.bk σ' H'
  | .cont => ∃ σ' H', Inv X pins σ' H' s' ∧ D.ct σ' H'
  | .ret u => ∃ v σ' H', Inv X pins σ' H' s' ∧ RelV v u ∧ D.rt v H'

def PE (X : Cx) (e : Expr) (t : TE) : Prop :=
  ∀ (pins : List (Addr × Obj)) (s : Shared) (σ : St) (H : Hp) (Q : VK), Inv X pins σ H s → t σ H Q → wpAny (model X.prog X.w) X.A (eval e X.env) (EP X pins σ Q) X.xe s
def PT (X : Cx) (e : Expr) (t : TT) : Prop :=
  ∀ (pins : List (Addr × Obj)) (s : Shared) (σ : St) (H : Hp) (Q : Bool → Hp → Prop), Inv X pins σ H s → t σ H Q → wpAny (model X.prog X.w) X.A (isTrue e X.env (eval e X.env)) (TP X pins σ Q) X.xe s
/-- a test whatever its 'whole' is (and, or) -/
def PW (X : Cx) (e : Expr) (t : TT) : Prop :=
  ∀ (whole : Sem Value) (pins : List (Addr × Obj)) (s : Shared) (σ : St) (H : Hp) (Q : Bool → Hp → Prop), Inv X pins σ H s → t σ H Q → wpAny (model X.prog X.w) X.A (isTrue e X.env whole) (TP X pins σ Q) X.xe s
theorem PW.pt {X : Cx} {e : Expr} {t : TT} (h : PW X e t) : PT X e t := h _
/-- an argument list (no star), from the left -/
def PA (X : Cx) (es : List Expr) (t : TA) : Prop :=
  ∀ (pos : Pos) (pins : List (Addr × Obj)) (s : Shared) (σ : St) (H : Hp) (Q : List V → Hp → Prop), Inv X pins σ H s → t σ H Q → wpAny (model X.prog X.w) X.A (spliced (backTo pos (starEach es X.env))) (AP X pins σ Q) X.xe s
def PS (X : Cx) (st : Stmt) (t : TS) : Prop :=
  ∀ (pins : List (Addr × Obj)) (s : Shared) (σ : St) (H : Hp) (D : Ends), Inv X pins σ H s → t D σ H → wpAny (model X.prog X.w) X.A (exec st X.env) (SP X pins D) X.xe s
def PSs (X : Cx) (st : List Stmt) (t : TS) : Prop :=
  ∀ (pins : List (Addr × Obj)) (s : Shared) (σ : St) (H : Hp) (D : Ends), Inv X pins σ H s → t D σ H → wpAny (model X.prog X.w) X.A (execs st X.env) (SP X pins D) X.xe s
/-- weaken the end -/
theorem thn {α : Type} {t : Sem α} {Q Q' : α → Shared → Prop} {M : Model} {A : Around} {E : Value → Shared → Prop} {s : Shared} (h : wpAny M A t Q E s) (hQ : ∀ a s, Q a s → Q' a s) : wpAny M A t Q' E s := wpAny_mono h hQ fun _ _ x => x
end L2

namespace L2
open PySem PySem.Spec PyProof.Rows
section
variable {X : Cx}


/-! ### names and constants -/
def tVar (i : Nat) : TE := fun σ H Q => ∃ v, σ[i]? = some (some v) ∧ Q v H
def tC (v : V) : TE := fun _ H Q => Q v H
theorem pe_var {i : Nat} {x : Str} {pos : Pos} (hN : X.N[i]? = some x) (hv : Vis X.env.scope x) (hd : (x == ("__debug__" : Str)) = false := by decide) (hcd : (x == ("__classdict__" : Str)) = false := by decide) : PE X (.Name x pos) (tVar i) := by
  intro pins s σ H Q I h
  obtain ⟨v, e, h⟩ := h
  obtain ⟨m, hn, hl⟩ := I.loc
  obtain ⟨u, r, l⟩ := hl i x v hN e hv
  have fin : EP X pins σ Q u s := ⟨v, H, I, r, h⟩
  rcases l with ⟨hk, hm⟩ | ⟨hk, c, hc, hcell⟩
  · exact wpAny_Name (wpAny_loadName_local I.ok.kind hk hn hm fin) hd
  · rcases hk with hk | hk
    · exact wpAny_Name (wpAny_loadName_cell I.ok.kind hk hc hcell fin) hd
    · exact wpAny_Name (wpAny_loadName_free I.ok.kind hk hc hcell fin hcd) hd
theorem pe_int {i j pos} : PE X (.Constant (.int i) j pos) (tC (.int i)) := fun _ _ _ H _ I h => wpAny_Constant_int ⟨.int i, H, I.tok _, ⟨_, rfl⟩, h⟩
theorem pe_bl {b j pos} : PE X (.Constant (.bool b) j pos) (tC (.bl b)) := fun _ _ _ H _ I h => Constant_bool ⟨.bl b, H, I, rfl, h⟩
theorem pe_str {x j pos} : PE X (.Constant (.str x) j pos) (tC (.str x)) := fun _ _ _ H _ I h => Calls.Constant_str ⟨.str x, H, I.tok _, ⟨_, rfl⟩, h⟩

/-- a global name of the def -/
def Gl (X : Cx) (x : Str) : Prop := X.env.kindOf x = some .globalImplicit
theorem ld_glob {E : Value → Shared → Prop} {pins : List (Addr × Obj)} {s : Shared} {σ : St} {H : Hp} {x : Str} {u : Value} {pos : Pos} {Q : Value → Shared → Prop} (I : Inv X pins σ H s) (hg : Gl X x) (hm : X.mg x = some u) (h : Q u s)
    (hd : (x == ("__debug__" : Str)) = false := by decide) : wpAny (model X.prog X.w) X.A (eval (.Name x pos) X.env) Q E s :=
  Calls.Name_function_global I.ok.kind hg (Calls.loadGlobal_global (by rw [I.ok.glob]; exact I.mod.glob.keeps I.bk) hm h) hd
theorem ld_blt {E : Value → Shared → Prop} {pins : List (Addr × Obj)} {s : Shared} {σ : St} {H : Hp} {x : Str} {u : Value} {pos : Pos} {Q : Value → Shared → Prop} (I : Inv X pins σ H s) (hg : Gl X x) (hm : X.mg x = none) (hv : bootBuiltins x = some u) (h : Q u s)
    (hn : x ≠ "__name__" := by decide) (hd : (x == ("__debug__" : Str)) = false := by decide) : wpAny (model X.prog X.w) X.A (eval (.Name x pos) X.env) Q E s := by
  obtain ⟨mb, h1, h2⟩ := I.mod.blt
  exact Calls.Name_function_global I.ok.kind hg (Calls.loadGlobal_builtin (by rw [I.ok.glob]; exact I.mod.glob.keeps I.bk) hm (by rw [I.ok.blt]; exact h1.keeps I.bk) ((h2 x hn).trans hv) h) hd
/-- a module's constant, a class, a function, as a value -/
theorem pe_glob {x : Str} {v : V} {u : Value} {pos : Pos} (hg : Gl X x) (hm : X.mg x = some u) (r : RelV v u) (hd : (x == ("__debug__" : Str)) = false := by decide) : PE X (.Name x pos) (tC v) :=
  fun _ _ _ H _ I h => ld_glob I hg hm ⟨v, H, I, r, h⟩ hd

/-! ### arithmetic -/
variable {a b : Expr} {ta tb : TE} {pos : Pos}

/-! ### comparisons -/
def PC (X : Cx) (op : CmpOp) (a b : Expr) (t : TE) : Prop :=
  ∀ (pins : List (Addr × Obj)) (s : Shared) (σ : St) (H : Hp) (Q : VK), Inv X pins σ H s → t σ H Q →
    wpAny (model X.prog X.w) X.A (eval a X.env) (fun v s₁ => wpAny (model X.prog X.w) X.A (eval b X.env) (fun u s₂ => wpAny (model X.prog X.w) X.A (compareOp op v u) (EP X pins σ Q) X.xe s₂) X.xe s₁) X.xe s
/-- a comparison as a value, as a test -/
def tB (t : TE) : TT := fun σ H Q => t σ H fun x H1 => ∃ c, x = .bl c ∧ Q c H1
theorem pt_cmp {op : CmpOp} {t : TE} (h : PC X op a b t) (h1 : behindInMarks op b = false := by first | exact nobehind _ (by decide) (by decide) | rfl) : PT X (.Compare a [op] [b] pos) (tB t) := by
  intro pins s σ H Q I hw
  refine wpAny_isTrue_Compare1 (thn (h pins s σ H _ I hw) fun v s1 h1 => thn h1 fun u s2 h2 => thn h2 fun c s3 ⟨x, H1, I1, r1, q1⟩ => ?_) h1
  obtain ⟨d, rfl, q⟩ := q1
  cases r1
  exact wpAny_truthy_bool ⟨H1, I1, q⟩
/-- an expression whose value is a bool, as a test -/
theorem pt_val {e : Expr} {t : TE} (h : PE X e t) (he : ∀ whole, isTrue e X.env whole = (do let v ← whole; standAt e.pos; holding [v] (truthy v)) := by intro _; rfl) : PT X e (tB t) := by
  intro pins s σ H Q I hw
  refine isTrue_plain (thn (h pins s σ H _ I hw) fun v s1 ⟨x, H1, I1, r1, q1⟩ => ?_) (he _)
  obtain ⟨d, rfl, q⟩ := q1
  cases r1
  exact wpAny_truthy_bool ⟨H1, I1, q⟩

/-! ### and, or, not -/
variable {tA tB' : TT} {rest : List Expr}
def tOr (t u : TT) : TT := fun σ H Q => t σ H fun c H1 => if c = true then Q true H1 else u σ H1 Q
def tNot (t : TT) : TT := fun σ H Q => t σ H fun c H1 => Q (!c) H1
theorem pw_or1 (ha : PT X a tA) : PW X (.BoolOp .Or [a] pos) tA := by
  intro wh pins s σ H Q I h
  refine isTrue_or (thn (ha pins s σ H Q I h) fun c s1 e => ?_)
  cases c with
  | false => exact isTrue_or_nil e
  | true => exact e
theorem pw_or (ha : PT X a tA) (hb : PW X (.BoolOp .Or (b :: rest) pos) tB') : PW X (.BoolOp .Or (a :: b :: rest) pos) (tOr tA tB') := by
  intro wh pins s σ H Q I h
  refine isTrue_or (thn (ha pins s σ H _ I h) fun c s1 ⟨H1, I1, q1⟩ => ?_)
  cases c with
  | true => exact ⟨H1, I1, q1⟩
  | false => exact hb wh pins s1 σ H1 Q I1 q1
theorem pt_not (ha : PT X a tA) : PT X (.UnaryOp .Not a pos) (tNot tA) := by
  intro pins s σ H Q I h
  exact isTrue_not (ha pins s σ H (fun c H1 => Q (!c) H1) I h)
def tOrV (ta tb : TE) : TE := fun σ H Q => ta σ H fun x H1 => ∃ c, x = .bl c ∧ if c = true then Q (.bl true) H1 else tb σ H1 Q
def tNotV (ta : TE) : TE := fun σ H Q => ta σ H fun x H1 => ∃ c, x = .bl c ∧ Q (.bl (!c)) H1
theorem pe_one {op} {t : TE} (h : PE X a t) : PE X (.BoolOp op [a] pos) t := fun pins s σ H Q I hw => BoolOp_one (h pins s σ H Q I hw)
theorem pe_or (ha : PE X a ta) (hb : PE X (.BoolOp .Or (b :: rest) pos) tb) : PE X (.BoolOp .Or (a :: b :: rest) pos) (tOrV ta tb) := by
  intro pins s σ H Q I h
  refine BoolOp_or (thn (ha pins s σ H _ I h) fun v s1 ⟨x, H1, I1, r1, q1⟩ => ?_)
  obtain ⟨c, rfl, q1⟩ := q1
  cases r1
  refine wpAny_truthy_bool ?_
  cases c with
  | false => exact hb pins s1 σ H1 Q I1 q1
  | true => exact ⟨.bl true, H1, I1, rfl, q1⟩
theorem pe_not (ha : PE X a ta) : PE X (.UnaryOp .Not a pos) (tNotV ta) := by
  intro pins s σ H Q I h
  refine UnaryOp_ (thn (ha pins s σ H _ I h) fun v s1 ⟨x, H1, I1, r1, q1⟩ => ?_)
  obtain ⟨c, rfl, q1⟩ := q1
  cases r1
  exact not_of (wpAny_truthy_bool ⟨.bl (!c), H1, I1, rfl, q1⟩)
/-- a if t else b -/
def tIf (t : TT) (ta tb : TE) : TE := fun σ H Q => t σ H fun c H1 => if c = true then ta σ H1 Q else tb σ H1 Q
theorem pe_ifExp {c : Expr} (hc : PT X c tA) (ha : PE X a ta) (hb : PE X b tb) : PE X (.IfExp c a b pos) (tIf tA ta tb) := by
  intro pins s σ H Q I h
  refine wpAny_IfExp (thn (hc pins s σ H _ I h) fun d s1 ⟨H1, I1, q1⟩ => ?_)
  cases d with
  | true => exact ha pins s1 σ H1 Q I1 q1
  | false => exact hb pins s1 σ H1 Q I1 q1
end
end L2

namespace L2
open PySem PySem.Spec PyProof.Rows

/-! ### a list, a tuple that is read: tracked, frozen, or an object of the module -/
def SqL (K : PySem.W.Frag) (H : Hp) (a : Addr) (xs : List V) : Prop :=
  Rd H a (.lst xs) ∨
    ∃ (o : Obj) (its : Array Value) (n : Nat), K.lookup a = some o ∧ o.cls = .type "list" ∧ o.dict = none ∧ o.data = .seq its n ∧ its.size ≤ sizeLine ∧ Vals xs its.toList
def SqT (K : PySem.W.Frag) (H : Hp) (a : Addr) (xs : List V) : Prop :=
  Rd H a (.tup xs) ∨
    ∃ (o : Obj) (its : Array Value) (n : Nat), K.lookup a = some o ∧ o.cls = .type "tuple" ∧ o.data = .seq its n ∧ its.size ≤ sizeLine ∧ Vals xs its.toList
def absV : Value → Option V
  | .none => some .non
  | .bool b => some (.bl b)
  | .int i _ => some (.int i)
  | .str x _ => some (.str x)
  | .bytes b _ => some (.byt b)
  | .float b _ => some (.flt b)
  | .ref a => some (.ref a)
  | .type n => some (.ty n)
  | _ => none
theorem RelV.abs {x : V} {u : Value} (r : RelV x u) : absV u = some x := by
  cases x with
  | non => cases r; rfl
  | bl _ => cases r; rfl
  | int _ => obtain ⟨t, rfl⟩ := r; rfl
  | str _ => obtain ⟨t, rfl⟩ := r; rfl
  | byt _ => obtain ⟨t, rfl⟩ := r; rfl
  | flt _ => obtain ⟨t, rfl⟩ := r; rfl
  | ref _ => cases r; rfl
  | ty _ => cases r; rfl
theorem RelV.inj {x y : V} {u : Value} (r : RelV x u) (q : RelV y u) : x = y := Option.some.inj (r.abs.symm.trans q.abs)
theorem Vals.inj : ∀ {xs ys : List V} {us : List Value}, Vals xs us → Vals ys us → xs = ys
  | _, _, _, .nil, .nil => rfl
  | _, _, _, .cons r t, .cons r' t' => by rw [r.inj r', Vals.inj t t']
section
variable {X : Cx} {pins : List (Addr × Obj)} {σ : St} {H : Hp} {s : Shared} {a : Addr} {xs ys : List V}
theorem SqL.of {K : PySem.W.Frag} (h : H a = some (.lst xs)) : SqL K H a xs := .inl (.inl h)
theorem SqT.of {K : PySem.W.Frag} (h : H a = some (.tup xs)) : SqT K H a xs := .inl (.inl h)
theorem Inv.list (I : Inv X pins σ H s) (h : SqL X.K H a xs) : ∃ its : List Value, Vals xs its ∧ PlainL s.heap a its.toArray ∧ xs.length ≤ sizeLine := by
  rcases h with h | ⟨o, its, n, hk, hc, hd, hs, hz, r⟩
  · obtain ⟨z, its, n, r, e⟩ := h.ok I.hok
    exact ⟨its, r, ⟨_, n, e, rfl, rfl, rfl⟩, z⟩
  · refine ⟨its.toList, r, ⟨o, n, I.kIn a o hk, hc, hd, by simpa using hs⟩, ?_⟩
    have e := r.length
    simp only [Array.length_toList] at e
    omega
theorem Inv.tuple (I : Inv X pins σ H s) (h : SqT X.K H a xs) : ∃ its : List Value, Vals xs its ∧ IsTup s.heap a its.toArray ∧ xs.length ≤ sizeLine := by
  rcases h with h | ⟨o, its, n, hk, hc, hs, hz, r⟩
  · obtain ⟨z, its, r, p⟩ := h.ok I.hok
    exact ⟨its, r, p, z⟩
  · refine ⟨its.toList, r, ⟨o, I.kIn a o hk, hc, n, by simpa using hs⟩, ?_⟩
    have e := r.length
    simp only [Array.length_toList] at e
    omega
theorem Inv.list_inj (I : Inv X pins σ H s) (h : SqL X.K H a xs) (h' : SqL X.K H a ys) : xs = ys := by
  obtain ⟨its, r, ⟨o, n, e, _, _, d⟩, _⟩ := I.list h
  obtain ⟨its', r', ⟨o', n', e', _, _, d'⟩, _⟩ := I.list h'
  rw [e] at e'; cases e'
  rw [d] at d'
  injection d' with d1 _
  have : its = its' := by simpa using congrArg Array.toList d1
  subst this
  exact r.inj r'
end

/-! ### another wish about exceptions -/
abbrev Cx.wish (X : Cx) (E : Value → Shared → Prop) : Cx := { X with xe := E }
/-- no exception leaves -/
abbrev Cx.nox (X : Cx) : Cx := X.wish fun _ _ => False
theorem Cx.Ok.wish {X : Cx} (ok : X.Ok) (E : Value → Shared → Prop) : (X.wish E).Ok :=
  ⟨ok.mod, ok.kind, ok.glob, ok.blt, ok.above, ok.inj, ok.has, ok.cab, ok.hd, ok.frames, ok.stk, ok.exf, ok.bs, ok.bsz, ok.noex, ok.exfs, ok.funs, ok.frf⟩
theorem Cx.Ok.unwish {X : Cx} {E : Value → Shared → Prop} (ok : (X.wish E).Ok) : X.Ok :=
  ⟨ok.mod, ok.kind, ok.glob, ok.blt, ok.above, ok.inj, ok.has, ok.cab, ok.hd, ok.frames, ok.stk, ok.exf, ok.bs, ok.bsz, ok.noex, ok.exfs, ok.funs, ok.frf⟩
section
variable {X : Cx} {pins : List (Addr × Obj)} {σ : St} {H : Hp} {s : Shared} {E : Value → Shared → Prop}
theorem Inv.wish (I : Inv X pins σ H s) (E : Value → Shared → Prop) : Inv (X.wish E) pins σ H s := ⟨I.ok.wish E, I.os, I.bare, I.base, I.loc, I.cell, I.free, I.freeC, I.pin, I.hok, I.len⟩
theorem Inv.unwish (I : Inv (X.wish E) pins σ H s) : Inv X pins σ H s := ⟨I.ok.unwish, I.os, I.bare, I.base, I.loc, I.cell, I.free, I.freeC, I.pin, I.hok, I.len⟩
theorem SP.unwish {D : Ends} {f : Flow} {s' : Shared} (h : SP (X.wish E) pins D f s') : SP X pins D f s' := by
  cases f with
  | next => obtain ⟨σ', H', I, q⟩ := h; exact ⟨σ', H', I.unwish, q⟩
  | brk => obtain ⟨σ', H', I, q⟩ := h; exact ⟨σ', H', I.unwish, q⟩
  | cont => obtain ⟨σ', H', I, q⟩ := h; exact ⟨σ', H', I.unwish, q⟩
  | ret u => obtain ⟨v, σ', H', I, r, q⟩ := h; exact ⟨v, σ', H', I.unwish, r, q⟩
theorem PSs.nox {st : List Stmt} {t : TS} (h : PSs X.nox st t) : PSs X st t := fun pins s σ H D I hw =>
  wpAny_mono (h pins s σ H D (I.wish _) hw) (fun _ _ q => q.unwish) fun _ _ z => False.elim z
end

/-! ### blocks and small statements -/
section
variable {X : Cx} {st : Stmt} {rest : List Stmt} {t u : TS} {e : Expr} {te : TE} {pos : Pos}
def tNext : TS := fun D σ H => D.nx σ H
def tSeq (t u : TS) : TS := fun D σ H => t { D with nx := u D } σ H
theorem pss_nil : PSs X [] tNext := fun _ _ σ H _ I h => wpAny_execs_nil ⟨σ, H, I, h⟩
theorem pss_cons (h1 : PS X st t) (h2 : PSs X rest u) : PSs X (st :: rest) (tSeq t u) := by
  intro pins s σ H D I h
  refine wpAny_execs_cons (thn (h1 pins s σ H { D with nx := u D } I h) fun f s1 q => ?_)
  cases f with
  | next =>
    obtain ⟨σ', H', I', q⟩ := q
    exact h2 pins s1 σ' H' D I' q
  | ret v => exact q
  | brk => exact q
  | cont => exact q
theorem pss_one (h1 : PS X st t) : PSs X [st] t := by
  intro pins s σ H D I h
  refine wpAny_execs_cons (thn (h1 pins s σ H D I h) fun f s1 q => ?_)
  cases f with
  | next => exact wpAny_execs_nil q
  | ret v => exact q
  | brk => exact q
  | cont => exact q
/-- in a def's body nothing is shown -/
theorem Inv.quiet {pins : List (Addr × Obj)} {σ : St} {H : Hp} {s : Shared} (I : Inv X pins σ H s) : interactive X.env = false := by simp [interactive, I.ok.kind]
/-- an expression whose value is dropped -/
def tDrop (te : TE) : TS := fun D σ H => te σ H fun _ H1 => D.nx σ H1
theorem ps_expr (he : PE X e te) (hs : swapsWith e none pos.line X.env = pure false := by rfl) : PS X (.Expr e pos) (tDrop te) := by
  intro pins s σ H D I h
  exact wpAny_Expr_any (thn (he pins s σ H _ I h) fun v s1 ⟨x, H1, I1, r1, q1⟩ => ⟨σ, H1, I1, q1⟩) I.quiet hs
def tRet (te : TE) : TS := fun D σ H => te σ H D.rt
theorem ps_ret (he : PE X e te) : PS X (.Return (some e) pos) (tRet te) := by
  intro pins s σ H D I h
  exact wpAny_Return_some (thn (he pins s σ H _ I h) fun v s1 ⟨x, H1, I1, r1, q1⟩ => ⟨x, σ, H1, I1, r1, q1⟩)
def tIfS (c : TT) (t u : TS) : TS := fun D σ H => c σ H fun b H1 => if b = true then t D σ H1 else u D σ H1
theorem ps_if {c : Expr} {a b : List Stmt} {tc : TT} (hc : PT X c tc) (ha : PSs X a t) (hb : PSs X b u) : PS X (.If c a b pos) (tIfS tc t u) := by
  intro pins s σ H D I h
  refine wpAny_If (thn (hc pins s σ H _ I h) fun d s1 ⟨H1, I1, q1⟩ => ?_)
  cases d with
  | true => exact ha pins s1 σ H1 D I1 q1
  | false => exact hb pins s1 σ H1 D I1 q1
end

/-! ### targets -/
abbrev TG := V → St → Hp → (St → Hp → Prop) → Prop
abbrev TGs := List V → St → Hp → (St → Hp → Prop) → Prop
def PG (X : Cx) (target : Expr) (t : TG) : Prop :=
  ∀ (pins : List (Addr × Obj)) (s : Shared) (σ : St) (H : Hp) (v : V) (u : Value) (Q : St → Hp → Prop), Inv X pins σ H s → RelV v u → t v σ H Q →
    wpAny (model X.prog X.w) X.A (assign target X.env u) (fun _ s' => ∃ σ' H', Inv X pins σ' H' s' ∧ Q σ' H') X.xe s
/-- several targets, one after another -/
def PGs (X : Cx) (ts : List Expr) (t : TGs) : Prop :=
  ∀ (pins : List (Addr × Obj)) (s : Shared) (σ : St) (H : Hp) (vs : List V) (us : List Value) (Q : St → Hp → Prop), Inv X pins σ H s → Vals vs us → t vs σ H Q →
    wpAny (model X.prog X.w) X.A (assignInOrder ((assignEach ts X.env).map (·.2)) us) (fun _ s' => ∃ σ' H', Inv X pins σ' H' s' ∧ Q σ' H') X.xe s
/-- a op= b, by values -/
abbrev TIp := V → V → Hp → VK → Prop
def PIp (X : Cx) (op : Operator) (t : TIp) : Prop :=
  ∀ (pins : List (Addr × Obj)) (s : Shared) (σ : St) (H : Hp) (x y : V) (v u : Value) (Q : VK), Inv X pins σ H s → RelV x v → RelV y u → t x y H Q →
    wpAny (model X.prog X.w) X.A (inplaceOp op v u) (EP X pins σ Q) X.xe s
section
variable {X : Cx} {pos : Pos}
def gName (i : Nat) : TG := fun v σ H Q => Q (σ.set i (some v)) H
theorem pg_name {i : Nat} {x : Str} (hN : X.N.Nodup) (hi : X.N[i]? = some x) (hx : Loc X.env.scope x) (hf : X.fn x = true ∨ X.env.scope.names.lookup x = some .local := by first | exact .inl rfl | exact .inr rfl | assumption) : PG X (.Name x pos) (gName i) := by
  intro pins s σ H v u Q I r h
  exact wpAny_assign_Name (store_ok I hN hi hx r (fun s' I' => ⟨_, H, I', h⟩) hf)
def gNil : TGs := fun vs σ H Q => vs = [] ∧ Q σ H
def gCons (t : TG) (u : TGs) : TGs := fun vs σ H Q => ∃ v r, vs = v :: r ∧ t v σ H fun σ' H' => u r σ' H' Q
theorem pgs_nil : PGs X [] gNil := by
  intro pins s σ H vs us Q I r h
  obtain ⟨e, h⟩ := h
  subst e
  cases r
  exact assignInOrder_nil ⟨σ, H, I, h⟩
theorem pgs_cons {e : Expr} {es : List Expr} {t : TG} {u : TGs} (h1 : PG X e t) (h2 : PGs X es u)
    (hs : (assignEach (e :: es) X.env).map (·.2) = assign e X.env :: (assignEach es X.env).map (·.2) := by rfl) : PGs X (e :: es) (gCons t u) := by
  intro pins s σ H vs us Q I r h
  obtain ⟨v, vr, e1, h⟩ := h
  subst e1
  cases r with
  | cons r rr =>
    rw [hs]
    refine assignInOrder_cons (thn (h1 pins s σ H _ _ _ I r h) fun _ s1 ⟨σ1, H1, I1, q1⟩ => ?_)
    exact h2 pins s1 σ1 H1 _ _ Q I1 rr q1
/-- (a, b, ..) = a tuple of that length -/
def gTup (K : PySem.W.Frag) (n : Nat) (t : TGs) : TG := fun v σ H Q => ∃ a xs, v = .ref a ∧ SqT K H a xs ∧ xs.length = n ∧ t xs σ H Q
theorem pg_tup {es : List Expr} {k : Nat} {t : TGs} {n : Nat} (hc : X.calm = true) (h : PGs X es t)
    (hn : (assignEach es X.env).length = n := by rfl) (hst : (assignEach es X.env).findIdx? (·.1) = none := by rfl) : PG X (.Tuple es k pos) (gTup X.K n t) := by
  intro pins s σ H v u Q I r hw
  obtain ⟨a, xs, e1, hq, hl, hw⟩ := hw
  subst e1
  cases r
  obtain ⟨its, rv, ht, hz⟩ := I.tuple hq
  refine assign_Tuple_tuple (I.ok.hd hc) ht (by simp [hn, ← hl, rv.length]) hst fun h' hx => ?_
  have I1 : Inv X pins σ H { s with heap := h' } := I.kept (t' := s.toks) fun b o e => hx b o (Nat.ne_of_lt (Heap.lt_size e)) e
  exact h pins _ σ H xs _ Q I1 (by simpa using rv) hw
/-- target = value -/
def tAsg (te : TE) (g : TG) : TS := fun D σ H => te σ H fun x H1 => g x σ H1 D.nx
/-- name = value -/
theorem ps_set {i : Nat} {x : Str} {e : Expr} {te : TE} {pos' : Pos} (hN : X.N.Nodup) (hi : X.N[i]? = some x) (hx : Loc X.env.scope x) (he : PE X e te) (hs : swapsWith e (some (.Name x pos')) pos.line X.env = pure false := by rfl) (hf : X.fn x = true ∨ X.env.scope.names.lookup x = some .local := by first | exact .inl rfl | exact .inr rfl | assumption) :
    PS X (.Assign [.Name x pos'] e pos) (tAsg te (gName i)) := by
  intro pins s σ H D I h
  refine wpAny_Assign_Name (thn (he pins s σ H _ I h) fun v s1 ⟨y, H1, I1, r1, q1⟩ => ?_) hs
  exact store_ok I1 hN hi hx r1 (fun s2 I2 => ⟨_, H1, I2, q1⟩) hf
/-- name op= e -/
def tAug (i : Nat) (te : TE) (ti : TIp) : TS := fun D σ H => ∃ x, σ[i]? = some (some x) ∧ te σ H fun y H1 => ti x y H1 fun z H2 => D.nx (σ.set i (some z)) H2
theorem ps_aug {i : Nat} {x : Str} {e : Expr} {te : TE} {op : Operator} {ti : TIp} {pos' : Pos} (hN : X.N.Nodup) (hi : X.N[i]? = some x) (hx : Loc X.env.scope x) (he : PE X e te) (ho : PIp X op ti) (hf : X.fn x = true ∨ X.env.scope.names.lookup x = some .local := by first | exact .inl rfl | exact .inr rfl | assumption) :
    PS X (.AugAssign (.Name x pos') op e pos) (tAug i te ti) := by
  intro pins s σ H D I h
  obtain ⟨v, e1, h⟩ := h
  obtain ⟨m, hn, hl⟩ := I.loc
  have vis : Vis X.env.scope x := by rcases hx with k | k; exact .inl k; exact .inr (.inl k)
  obtain ⟨u, r, l⟩ := hl i x v hi e1 vis
  refine wpAny_AugAssign_Name ?_
  have go : wpAny (model X.prog X.w) X.A (eval e X.env) (fun w s₂ => wpAny (model X.prog X.w) X.A (inplaceOp op u w) (fun r s₃ => wpAny (model X.prog X.w) X.A (storeName X.env x r) (fun _ => SP X pins D .next) X.xe s₃) X.xe s₂) X.xe s := by
    refine thn (he pins s σ H _ I h) fun w s1 ⟨y, H1, I1, r1, q1⟩ => ?_
    refine thn (ho pins s1 σ H1 v y u w _ I1 r r1 q1) fun z s2 ⟨zv, H2, I2, r2, q2⟩ => ?_
    exact store_ok I2 hN hi hx r2 (fun s3 I3 => ⟨_, H2, I3, q2⟩) hf
  rcases l with ⟨hk, hm⟩ | ⟨hk, c, hc, hcell⟩
  · exact wpAny_loadName_local I.ok.kind hk hn hm go
  · rcases hk with hk | hk
    · exact wpAny_loadName_cell I.ok.kind hk hc hcell go
    · rcases hx with k | k
      · have : X.env.scope.names.lookup x = some .free := hk
        rw [k] at this; cases this
      · have : X.env.scope.names.lookup x = some .free := hk
        rw [k] at this; cases this
/-- ints -/
def ipI (f : Int → Int → Int) : TIp := fun x y H Q => ∃ i j, x = .int i ∧ y = .int j ∧ Q (.int (f i j)) H
theorem ip_add : PIp X .Add (ipI fun i j => i + j) := by
  intro pins s σ H x y v u Q I r1 r2 h
  obtain ⟨i, j, e1, e2, q⟩ := h
  subst e1; subst e2
  obtain ⟨t, rfl⟩ := r1
  obtain ⟨t', rfl⟩ := r2
  exact iadd_int ⟨.int _, H, I.tok _, ⟨_, rfl⟩, q⟩
end

/-! ### while -/
section
variable {X : Cx} {pos : Pos}
/-- the invariant W with its measure -/
def tWhile (c : TT) (tb : TS) : TS := fun D σ H => ∃ W : Nat → St → Hp → Prop, (∃ m, W m σ H) ∧ ∀ m σ H, W m σ H →
  c σ H fun b H1 => if b = true then ∃ N : St → Hp → Prop, (∀ σ' H', N σ' H' → ∃ m', m' < m ∧ W m' σ' H') ∧ tb { D with nx := N, ct := N, bk := D.nx } σ H1 else D.nx σ H1
theorem ps_while {c : Expr} {body : List Stmt} {tc : TT} {tb : TS} (hp : PassesOwn (model X.prog X.w) X.A X.env X.xe) (hc : PT X c tc) (hb : PSs X body tb) : PS X (.While c body [] pos) (tWhile tc tb) := by
  intro pins s σ H D I h
  obtain ⟨W, ⟨m0, w0⟩, turn⟩ := h
  refine wpAny_While (codeAny_whileLoop (fun n s' => ∃ σ' H', Inv X pins σ' H' s' ∧ W n σ' H') ?_ m0 ⟨σ, H, I, w0⟩)
  rintro n s1 ⟨σ1, H1, I1, w1⟩
  refine wpAny_passesOwn hp (thn (hc pins s1 σ1 H1 _ I1 (turn n σ1 H1 w1)) fun b s2 ⟨H2, I2, q2⟩ => ?_)
  cases b with
  | true =>
    obtain ⟨N, hN, q2⟩ := q2
    rw [if_pos rfl]
    refine wpAny_passesOwn hp (thn (hb pins s2 σ1 H2 _ I2 q2) fun f s3 q3 => ?_)
    cases f with
    | next =>
      obtain ⟨σ3, H3, I3, n3⟩ := q3
      obtain ⟨m', hm, w3⟩ := hN σ3 H3 n3
      exact ⟨m', hm, σ3, H3, I3, w3⟩
    | cont =>
      obtain ⟨σ3, H3, I3, n3⟩ := q3
      obtain ⟨m', hm, w3⟩ := hN σ3 H3 n3
      exact ⟨m', hm, σ3, H3, I3, w3⟩
    | brk => exact q3
    | ret v => exact q3
  | false =>
    rw [if_neg Bool.false_ne_true]
    exact wpAny_execs_nil ⟨σ1, H2, I2, q2⟩
end

/-! ### what a loop or a comprehension walks -/
/-- at turn i: it yields x (the heap may grow), or it stops -/
structure It where
  go : Nat → Hp → Prop
  yld : Nat → Hp → V → Hp → Prop
  stop : Nat → Hp → Prop
/-- the iterator's own objects may turn: they are not the frame's, not pinned, younger than the entry (or a comprehension's own) -/
def FpOk (X : Cx) (pins : List (Addr × Obj)) (H : Hp) (b : Addr) : Prop :=
  H b = none ∧ b ≠ X.env.locals ∧ b ∉ X.fs ∧ (b ∈ X.ex ∨ X.s_0.heap.objs.size ≤ b) ∧ (∀ x c, X.env.cells.lookup x = some c → c ≠ b) ∧ ∀ p ∈ X.pn ++ pins, p.1 ≠ b
theorem Inv.fpOk {X : Cx} {pins : List (Addr × Obj)} {σ : St} {H H' : Hp} {s : Shared} {b : Addr} (I : Inv X pins σ H s) (hb : s.heap.objs.size ≤ b) (hn : H' b = none) : FpOk X pins H' b := by
  refine ⟨hn, Nat.ne_of_gt (Nat.lt_of_lt_of_le I.lt hb), I.nofs hb, .inr (Nat.le_trans I.sz hb), fun x c e z => ?_, fun p hp z => ?_⟩
  · obtain ⟨v, q⟩ := I.cell x c e
    exact absurd (Nat.lt_of_lt_of_le q.lt (by rw [z]; exact hb)) (Nat.lt_irrefl _)
  · exact absurd (Nat.lt_of_lt_of_le (Heap.lt_size (I.pin p hp).1) (by rw [z]; exact hb)) (Nat.lt_irrefl _)
structure Turn (P : Program) (w : World) (K : PySem.W.Frag) (tg : Expr) (J : It) (fp : List Addr) (it : Addr) (tn : Nat → Heap → Prop) : Prop where
  mem : it ∈ fp
  obj : ∀ i h, tn i h → ∀ b ∈ fp, ∃ o, h.get? b = some o ∧ ∀ v, o.data ≠ .cell v
  keep : ∀ i h h', tn i h → (∀ b ∈ fp, ∀ o, h.get? b = some o → h'.get? b = some o) → tn i h'
  item : ∀ (X : Cx), X.prog = P → X.w = w → X.K = K → X.calm = true → ∀ (i : Nat) (pins : List (Addr × Obj)) (s : Shared) (σ : St) (H : Hp) (E : Value → Shared → Prop), Inv X pins σ H s → (∀ b ∈ fp, FpOk X pins H b) → tn i s.heap → J.go i H →
    wpAny (model P w) X.A (pyNext (.ref it)) (fun r s1 => ∃ u, r = some u ∧
      wpAny (model P w) X.A (letOwnedTupleGo tg (.ref it) u) (fun _ s2 => ∃ x H', Inv X pins σ H' s2 ∧ RelV x u ∧ J.yld i H x H' ∧ tn (i + 1) s2.heap ∧ ∀ b ∈ fp, H' b = none) E s1) E s
  done : ∀ (X : Cx), X.prog = P → X.w = w → X.K = K → X.calm = true → ∀ (i : Nat) (pins : List (Addr × Obj)) (s : Shared) (σ : St) (H : Hp) (E : Value → Shared → Prop), Inv X pins σ H s → (∀ b ∈ fp, FpOk X pins H b) → tn i s.heap → J.stop i H →
    wpAny (model P w) X.A (pyNext (.ref it)) (fun r s1 => r = none ∧ Inv X pins σ H s1) E s
  self : ∀ (A : Around) (i : Nat) (s : Shared) (Q : Value → Shared → Prop) (E : Value → Shared → Prop), tn i s.heap → Q (.ref it) s → wpAny (model P w) A (pyIter (.ref it)) Q E s
abbrev TI := St → Hp → (It → Hp → Prop) → Prop
/-- an iterator has come -/
def PIE (X : Cx) (pins : List (Addr × Obj)) (σ : St) (tg : Expr) (R : It → Hp → Prop) (itv : Value) (s2 : Shared) : Prop :=
  ∃ (it : Addr) (fp : List Addr) (tn : Nat → Heap → Prop) (J : It) (H' : Hp), itv = .ref it ∧ Inv X pins σ H' s2 ∧ Turn X.prog X.w X.K tg J fp it tn ∧ tn 0 s2.heap ∧ (∀ b ∈ fp, FpOk X pins H' b) ∧ R J H'
def PI (X : Cx) (tg iter : Expr) (wi : TI) : Prop :=
  ∀ (pins : List (Addr × Obj)) (s : Shared) (σ : St) (H : Hp) (R : It → Hp → Prop), Inv X pins σ H s → wi σ H R →
    wpAny (model X.prog X.w) X.A (eval iter X.env) (fun v s1 => wpAny (model X.prog X.w) X.A (pyIter v) (PIE X pins σ tg R) X.xe s1) X.xe s

/-- the step ahead of the store is nothing for an iterator that keeps no tuple -/
theorem go_of {M : Model} {A : Around} {E : Value → Shared → Prop} {s : Shared} {tg : Expr} {it : Addr} {u : Value} {o : Obj} {n : String} {vs : Array Value} {Q : Unit → Shared → Prop} (ho : s.heap.get? it = some o) (hc : o.cls = .type n) (hd : o.data = .fields vs)
    (hn : ["enumerate", "zip", "dict_itemiterator", "dict_reverseitemiterator", "odict_iterator", "itertools.zip_longest", "itertools.pairwise"].contains n = false) (hQ : Q () s) : wpAny M A (letOwnedTupleGo tg (.ref it) u) Q E s := by
  unfold letOwnedTupleGo
  cases tg <;> first
    | exact wpAny_pure hQ
    | (cases u <;> first
        | exact wpAny_pure hQ
        | (refine wpAny_bind (wpAny_load ho ?_)
           rw [hc, hd]
           show wpAny M A (if (["enumerate", "zip", "dict_itemiterator", "dict_reverseitemiterator", "odict_iterator", "itertools.zip_longest", "itertools.pairwise"].contains n && vs[0]? == some (rawInt _)) = true then _ else _) Q E s
           rw [if_neg (by intro h; rw [hn, Bool.false_and] at h; cases h)]
           exact wpAny_pure hQ))

/-- the list at a, as it stands at each turn (a loop may append to it) -/
def Itl (K : PySem.W.Frag) (a : Addr) : It :=
  ⟨fun i H => ∃ xs x, SqL K H a xs ∧ xs[i]? = some x, fun i H x H' => H' = H ∧ ∀ xs, SqL K H a xs → xs[i]? = some x, fun i H => ∃ xs, SqL K H a xs ∧ xs.length ≤ i⟩
/-- lo, lo + 1, .. (n of them) -/
def Itr (lo : Int) (n : Nat) : It := ⟨fun i _ => i < n, fun i H x H' => H' = H ∧ x = .int (lo + i), fun i _ => n ≤ i⟩
theorem turn_list {P : Program} {w : World} {K : PySem.W.Frag} {tg : Expr} (a it : Addr) : Turn P w K tg (Itl K a) [it] it (fun i h => h.IsListIter it a i) where
  mem := by simp
  obj := fun i h st b hb => by
    have e : b = it := by simpa using hb
    subst e
    obtain ⟨o, e, c, d⟩ := st
    exact ⟨o, e, fun v z => by rw [d] at z; cases z⟩
  keep := fun i h h' st k => st.at fun o e => k it (by simp) o e
  item := by
    intro X hP hw hK hc i pins s σ H E I hf st hg
    subst hP hw hK
    obtain ⟨xs, x, hq, hx⟩ := hg
    obtain ⟨its, rv, p, hz⟩ := I.list hq
    obtain ⟨u, hu, ru⟩ := rv.get hx
    obtain ⟨f0, f1, f2, f3, f4, f5⟩ := hf it (by simp)
    refine wpAny_pyNext_list_item st p.isList (x := u) (by simpa using hu) fun h' st' sb => ?_
    have I1 : Inv X pins σ H { s with heap := h' } := I.turned (t' := s.toks) (fun b o hb e => (sb.2 b hb).trans e) f0 f1 f3 f4 f5
    obtain ⟨o, e, c, d⟩ := id st'
    exact ⟨u, rfl, go_of (s := { s with heap := h' }) e c d (by decide) ⟨x, H, I1, ru, ⟨rfl, fun ys hy => by rw [I.list_inj hy hq]; exact hx⟩, st', fun b hb => (hf b hb).1⟩⟩
  done := by
    intro X hP hw hK hc i pins s σ H E I hf st hg
    subst hP hw hK
    obtain ⟨xs, hq, hx⟩ := hg
    obtain ⟨its, rv, p, hz⟩ := I.list hq
    obtain ⟨f0, f1, f2, f3, f4, f5⟩ := hf it (by simp)
    have hl := rv.length
    exact wpAny_pyNext_list_end (I.ok.hd hc) st p.isList (by simp; omega) fun h' eb => ⟨rfl, I.turned (t' := s.toks) (fun b o hb e => eb b o hb e) f0 f1 f3 f4 f5⟩
  self := fun _ _ _ _ _ st h => wpAny_pyIter_listiter st h
theorem turn_range {P : Program} {w : World} {K : PySem.W.Frag} {tg : Expr} (it : Addr) (lo : Int) (n : Nat) : Turn P w K tg (Itr lo n) [it] it (fun i h => IsRangeIter h it (lo + (i : Nat) * 1) ((n : Int) - (i : Nat)) 1) where
  mem := by simp
  obj := fun i h st b hb => by
    have e : b = it := by simpa using hb
    subst e
    exact ⟨_, st, fun v z => by
      have z' : Data.fields _ = Data.cell v := z
      cases z'⟩
  keep := fun i h h' st k => k it (by simp) _ st
  item := by
    intro X hP hw hK hc i pins s σ H E I hf st hg
    subst hP hw hK
    obtain ⟨f0, f1, f2, f3, f4, f5⟩ := hf it (by simp)
    have W := Walks.range (prog := X.prog) (w := X.w) (I.ok.hd hc) it lo 1 n
    refine W.item i s _ _ hg st fun v h' tk hv st' kk => ?_
    obtain ⟨t, rfl⟩ := hv
    have I1 : Inv X pins σ H { s with heap := h', toks := tk } := I.turned (fun b o hb e => kk b o (by simpa using hb) e) f0 f1 f3 f4 f5
    refine ⟨_, rfl, go_of (s := { s with heap := h', toks := tk }) (n := "range_iterator") st' rfl rfl (by decide) ⟨.int (lo + i), H, I1, ⟨t, ?_⟩, ⟨rfl, rfl⟩, st', fun b hb => (hf b hb).1⟩⟩
    rw [Int.mul_one]
  done := by
    intro X hP hw hK hc i pins s σ H E I hf st hg
    subst hP hw hK
    obtain ⟨f0, f1, f2, f3, f4, f5⟩ := hf it (by simp)
    exact wpAny_pyNext_range_end (I.ok.hd hc) st (by have : n ≤ i := hg; omega) fun h' eb => ⟨rfl, I.turned (t' := s.toks) (fun b o hb e => eb b o hb e) f0 f1 f3 f4 f5⟩
  self := fun _ _ _ _ _ st h => wpAny_pyIter_rangeiter st h
end L2

namespace L2
open PySem PySem.Spec PyProof.Rows
section
variable {X : Cx} {tg : Expr}
def iList (K : PySem.W.Frag) (tl : TE) : TI := fun σ H R => tl σ H fun x H1 => ∃ a, x = .ref a ∧ (∃ xs, SqL K H1 a xs) ∧ R (Itl K a) H1
theorem pi_list {l : Expr} {tl : TE} (hl : PE X l tl) : PI X tg l (iList X.K tl) := by
  intro pins s σ H R I h
  refine thn (hl pins s σ H _ I h) fun v s1 ⟨x, H1, I1, r1, q1⟩ => ?_
  obtain ⟨a, e, ⟨xs, hq⟩, q⟩ := q1
  subst e
  cases r1
  obtain ⟨its, rv, p, hz⟩ := I1.list hq
  refine wpAny_pyIter_list p.isList ?_
  refine ⟨s1.heap.objs.size, [s1.heap.objs.size], _, _, H1, rfl, I1.kept (t' := s1.toks) fun b o e => Heap.get?_push_of_some _ e, turn_list a _, ⟨_, Heap.get?_push_size _ rfl, rfl, rfl⟩, fun b hb => ?_, q⟩
  have e : b = s1.heap.objs.size := by simpa using hb
  subst e
  exact I1.fpOk (Nat.le_refl _) (I1.hok.fresh (Nat.le_refl _))
/-- a range object just made, walked -/
theorem range_it {pins : List (Addr × Obj)} {σ : St} {H : Hp} {s : Shared} {R : It → Hp → Prop} {E : Value → Shared → Prop} {lo hi : Int} {t u v : Tok} {tk : Nat} (I : Inv X pins σ H s) (h1 : -(2 ^ 62) ≤ lo) (h2 : lo < 2 ^ 62) (h3 : -(2 ^ 62) ≤ hi) (h4 : hi < 2 ^ 62)
    (q : R (Itr lo (hi - lo).toNat) H) : wpAny (model X.prog X.w) X.A (pyIter (.ref s.heap.objs.size)) (PIE X pins σ tg R) E { s with heap := s.heap.push { cls := .type "range", data := .fields #[.int lo t, .int hi u, .int 1 v] }, toks := tk } := by
  refine wpAny_pyIter_range (IsRange.new ..) (small_one h1 h2 h3 h4) ?_
  have I1 : Inv X pins σ H { s with heap := s.heap.push { cls := .type "range", data := .fields #[.int lo t, .int hi u, .int 1 v] }, toks := tk } := I.kept fun b o e => Heap.get?_push_of_some _ e
  refine ⟨(s.heap.push { cls := .type "range", data := .fields #[.int lo t, .int hi u, .int 1 v] }).objs.size, [(s.heap.push { cls := .type "range", data := .fields #[.int lo t, .int hi u, .int 1 v] }).objs.size], _, _, H, rfl,
    I1.kept (t' := tk) fun b o e => Heap.get?_push_of_some _ e, turn_range _ lo (hi - lo).toNat, ?_, fun b hb => ?_, q⟩
  · have e1 : lo + ((0 : Nat) : Int) * 1 = lo := by simp
    have e2 : (((hi - lo).toNat : Nat) : Int) - ((0 : Nat) : Int) = Builtin.Range.rangeSize lo hi 1 := by rw [rangeSize_one]; split <;> omega
    show IsRangeIter _ _ (lo + ((0 : Nat) : Int) * 1) ((((hi - lo).toNat : Nat) : Int) - ((0 : Nat) : Int)) 1
    rw [e1, e2]
    exact Heap.get?_push_size _ rfl
  · have e : b = (s.heap.push { cls := .type "range", data := .fields #[.int lo t, .int hi u, .int 1 v] }).objs.size := by simpa using hb
    subst e
    exact I1.fpOk (Nat.le_refl _) (I1.hok.fresh (Nat.le_refl _))
def iRng1 (ta : TA) : TI := fun σ H R => ta σ H fun vs H1 => ∃ j : Int, vs = [.int j] ∧ -(2 ^ 62) ≤ j ∧ j < 2 ^ 62 ∧ R (Itr 0 j.toNat) H1
def iRng2 (ta : TA) : TI := fun σ H R => ta σ H fun vs H1 => ∃ i j : Int, vs = [.int i, .int j] ∧ (-(2 ^ 62) ≤ i ∧ i < 2 ^ 62 ∧ -(2 ^ 62) ≤ j ∧ j < 2 ^ 62) ∧ R (Itr i (j - i).toNat) H1
theorem pi_range1 {a : Expr} {ta : TA} {p pos : Pos} (hg : Gl X "range") (hm : X.mg "range" = none) (ha : PA X [a] ta) (hs : starEach [a] X.env = [(false, eval a X.env)] := by rfl) : PI X tg (.Call (.Name "range" p) [a] [] pos) (iRng1 ta) := by
  intro pins s σ H R I h
  refine Call_ (ld_blt I hg hm boot_range (PyProof.Rows.callWith_type1 (thn (ha pos pins s σ H _ I h) fun us s1 ⟨vs, H1, I1, r1, q1⟩ => ?_) hs rfl))
  obtain ⟨j, e, q1, q2, q⟩ := q1
  subst e
  cases r1 with
  | cons r rr =>
    cases rr
    obtain ⟨t, rfl⟩ := r
    exact call_range_1 (range_it I1 (by omega) (by omega) q1 q2 (by simpa using q))
theorem pi_range2 {a b : Expr} {ta : TA} {p pos : Pos} (hg : Gl X "range") (hm : X.mg "range" = none) (ha : PA X [a, b] ta) (hs : starEach [a, b] X.env = [(false, eval a X.env), (false, eval b X.env)] := by rfl) (hs2 : starEach [b] X.env = [(false, eval b X.env)] := by rfl) :
    PI X tg (.Call (.Name "range" p) [a, b] [] pos) (iRng2 ta) := by
  intro pins s σ H R I h
  refine Call_ (ld_blt I hg hm boot_range (PyProof.Rows.callWith_type1 (thn (ha pos pins s σ H _ I h) fun us s1 ⟨vs, H1, I1, r1, q1⟩ => ?_) (by rw [hs, hs2]) (by rw [hs2]; rfl)))
  obtain ⟨i, j, e, ⟨q1, q2, q3, q4⟩, q⟩ := q1
  subst e
  cases r1 with
  | cons r rr =>
    cases rr with
    | cons r' rr =>
      cases rr
      obtain ⟨t, rfl⟩ := r
      obtain ⟨t', rfl⟩ := r'
      exact call_range_2 (range_it I1 q1 q2 q3 q4 q)

/-! ### for -/
/-- W: the invariant by the turn and a measure; N: what the body is to reach -/
def tFor (wi : TI) (g : TG) (tb : TS) : TS := fun D σ H => wi σ H fun J H1 => ∃ W : Nat → Nat → St → Hp → Prop, (∃ m, W 0 m σ H1) ∧ ∀ i m σ H, W i m σ H →
  (J.stop i H ∧ D.nx σ H) ∨ (J.go i H ∧ ∃ N : St → Hp → Prop, (∀ σ' H', N σ' H' → ∃ m', m' < m ∧ W (i + 1) m' σ' H') ∧ ∀ x H', J.yld i H x H' → g x σ H' fun σ2 H2 => tb { D with nx := N, ct := N, bk := D.nx } σ2 H2)
/-- the records at fp as they stand -/
def pinsAt (fp : List Addr) (h : Heap) : List (Addr × Obj) := fp.filterMap fun b => (h.get? b).map fun o => (b, o)
theorem mem_pinsAt {fp : List Addr} {h : Heap} {b : Addr} {o : Obj} (hb : b ∈ fp) (e : h.get? b = some o) : (b, o) ∈ pinsAt fp h := List.mem_filterMap.mpr ⟨b, hb, by rw [e]; rfl⟩
theorem of_pinsAt {fp : List Addr} {h : Heap} {p : Addr × Obj} (hp : p ∈ pinsAt fp h) : p.1 ∈ fp ∧ h.get? p.1 = some p.2 := by
  obtain ⟨b, hb, e⟩ := List.mem_filterMap.mp hp
  cases q : h.get? b with
  | none => rw [q] at e; cases e
  | some o =>
    rw [q] at e
    have e' : (b, o) = p := Option.some.inj e
    subst e'
    exact ⟨hb, q⟩
theorem Inv.pinned {pins : List (Addr × Obj)} {σ : St} {H : Hp} {s : Shared} {fp : List Addr} (I : Inv X pins σ H s) (hf : ∀ b ∈ fp, FpOk X pins H b) (ho : ∀ b ∈ fp, ∃ o, s.heap.get? b = some o ∧ ∀ v, o.data ≠ .cell v) : Inv X (pins ++ pinsAt fp s.heap) σ H s :=
  I.pins_of fun p hp => (List.mem_append.mp hp).elim (fun z => I.pin p (List.mem_append_right _ z)) fun z => by
    obtain ⟨hb, e⟩ := of_pinsAt z
    obtain ⟨f0, f1, f2, _⟩ := hf p.1 hb
    obtain ⟨o, e', d⟩ := ho p.1 hb
    rw [e] at e'; cases e'
    exact ⟨e, f0, f1, f2, d⟩
theorem Inv.unpinned {pins pl : List (Addr × Obj)} {σ : St} {H : Hp} {s : Shared} (I : Inv X (pins ++ pl) σ H s) : Inv X pins σ H s := I.pins_of fun p hp => I.pin p (List.mem_append_right _ (List.mem_append_left _ hp))
theorem ps_for {iter : Expr} {body : List Stmt} {wi : TI} {g : TG} {tb : TS} {pos : Pos} (hp : PassesOwn (model X.prog X.w) X.A X.env X.xe) (hc : X.calm = true) (hi : PI X tg iter wi) (hg : PG X tg g) (hb : PSs X body tb)
    (hs : ∀ x, foldedSetIterable iter X.env x = pure x := by intro _; rfl) : PS X (.For tg iter body [] pos) (tFor wi g tb) := by
  intro pins s σ H D I h
  refine wpAny_For (thn (hi pins s σ H _ I h) fun v s1 h1 => thn h1 fun itv s2 h2 => ?_) hs
  obtain ⟨it, fp, tn, J, H2, e, I2, T, st2, f2, W, ⟨m0, w0⟩, turn⟩ := h2
  subst e
  -- what stays true of the iterator's objects through the loop
  have stat : ∀ {H' : Hp}, (∀ b ∈ fp, H' b = none) → ∀ b ∈ fp, FpOk X pins H' b := fun hn b hb => ⟨hn b hb, (f2 b hb).2⟩
  refine codeAny_forLoop_any (fun n s' => ∃ i σ' H', Inv X pins σ' H' s' ∧ tn i s'.heap ∧ (∀ b ∈ fp, H' b = none) ∧ W i n σ' H') ?_ m0 ⟨0, σ, H2, I2, st2, fun b hb => (f2 b hb).1, w0⟩
  rintro n s3 ⟨i, σ3, H3, I3, st3, fr3, w3⟩
  rcases turn i n σ3 H3 w3 with ⟨stop, qn⟩ | ⟨go, N, hN, step⟩
  · refine wpAny_passesOwn hp (thn (T.done X rfl rfl rfl hc i pins s3 σ3 H3 X.xe I3 (stat fr3) st3 stop) fun r s4 ⟨hr, I4⟩ => ?_)
    subst hr
    exact wpAny_execs_nil ⟨σ3, H3, I4, qn⟩
  · refine wpAny_passesOwn hp (thn (T.item X rfl rfl rfl hc i pins s3 σ3 H3 X.xe I3 (stat fr3) st3 go) fun r s4 ⟨u, hr, h4⟩ => ?_)
    subst hr
    refine wpAny_passesOwn hp (thn h4 fun _ s5 ⟨x, H5, I5, r5, y5, st5, fr5⟩ => ?_)
    have I5' := I5.pinned (stat fr5) (T.obj _ _ st5)
    refine wpAny_passesOwn hp (thn (hg _ s5 σ3 H5 x u _ I5' r5 (step x H5 y5)) fun _ s6 ⟨σ6, H6, I6, q6⟩ => ?_)
    refine wpAny_passesOwn hp (thn (hb _ s6 σ6 H6 _ I6 q6) fun f s7 q7 => ?_)
    have again : ∀ {σ7 : St} {H7 : Hp}, Inv X (pins ++ pinsAt fp s5.heap) σ7 H7 s7 → N σ7 H7 → ∃ m, m < n ∧ ∃ i σ' H', Inv X pins σ' H' s7 ∧ tn i s7.heap ∧ (∀ b ∈ fp, H' b = none) ∧ W i m σ' H' := fun {σ7 H7} I7 n7 => by
      obtain ⟨m', hm, w7⟩ := hN σ7 H7 n7
      refine ⟨m', hm, i + 1, σ7, H7, I7.unpinned, T.keep _ _ _ st5 fun b hb o e => (I7.pin (b, o) (List.mem_append_right _ (List.mem_append_right _ (mem_pinsAt hb e)))).1, fun b hb => ?_, w7⟩
      obtain ⟨o, e, d⟩ := T.obj _ _ st5 b hb
      exact (I7.pin (b, o) (List.mem_append_right _ (List.mem_append_right _ (mem_pinsAt hb e)))).2.1
    cases f with
    | next => obtain ⟨σ7, H7, I7, n7⟩ := q7; exact again I7 n7
    | cont => obtain ⟨σ7, H7, I7, n7⟩ := q7; exact again I7 n7
    | brk => obtain ⟨σ7, H7, I7, q7⟩ := q7; exact ⟨σ7, H7, I7.unpinned, q7⟩
    | ret v => obtain ⟨x7, σ7, H7, I7, r7, q7⟩ := q7; exact ⟨x7, σ7, H7, I7.unpinned, r7, q7⟩
end

/-! ### the forms one uses -/
/-- over a list that the body leaves as it is -/
theorem for_list {K : PySem.W.Frag} {a : Addr} {xs : List V} {g : TG} {tb : TS} {D : Ends} {σ : St} {H : Hp} (Pv : Nat → St → Hp → Prop) (h0 : Pv 0 σ H) (hl : ∀ i σ H, i ≤ xs.length → Pv i σ H → SqL K H a xs)
    (hs : ∀ i x σ H, xs[i]? = some x → Pv i σ H → g x σ H fun σ2 H2 => tb { D with nx := Pv (i + 1), ct := Pv (i + 1), bk := D.nx } σ2 H2) (hd : ∀ σ H, Pv xs.length σ H → D.nx σ H) :
    ∃ W : Nat → Nat → St → Hp → Prop, (∃ m, W 0 m σ H) ∧ ∀ i m σ H, W i m σ H →
      ((Itl K a).stop i H ∧ D.nx σ H) ∨ ((Itl K a).go i H ∧ ∃ N : St → Hp → Prop, (∀ σ' H', N σ' H' → ∃ m', m' < m ∧ W (i + 1) m' σ' H') ∧ ∀ x H', (Itl K a).yld i H x H' → g x σ H' fun σ2 H2 => tb { D with nx := N, ct := N, bk := D.nx } σ2 H2) := by
  refine ⟨fun i m σ H => m = xs.length - i ∧ i ≤ xs.length ∧ Pv i σ H, ⟨xs.length, by simp, Nat.zero_le _, h0⟩, ?_⟩
  rintro i m σ H ⟨rfl, hi, p⟩
  have q := hl i σ H hi p
  by_cases hlt : i < xs.length
  · refine .inr ⟨⟨xs, xs[i], q, by simp [hlt]⟩, Pv (i + 1), fun σ' H' p' => ⟨xs.length - (i + 1), by omega, rfl, hlt, p'⟩, fun x H' y => ?_⟩
    obtain ⟨e, y⟩ := y
    subst e
    exact hs i x σ _ (y xs q) p
  · have e : i = xs.length := by omega
    subst e
    exact .inl ⟨⟨xs, q, Nat.le_refl _⟩, hd σ H p⟩
end L2

namespace L2
open PySem PySem.Spec PyProof.Rows

abbrev R2 := V → V → Hp → VK → Prop
/-- a two-place operation on values: f is binaryOp op, inplaceOp op or compareOp op -/
def OpR (X : Cx) (f : Value → Value → Sem Value) (r : R2) : Prop :=
  ∀ (pins : List (Addr × Obj)) (s : Shared) (σ : St) (H : Hp) (x y : V) (v u : Value) (Q : VK), Inv X pins σ H s → RelV x v → RelV y u → r x y H Q →
    wpAny (model X.prog X.w) X.A (f v u) (EP X pins σ Q) X.xe s
/-- a one-place operation -/
def UnR (X : Cx) (f : Value → Sem Value) (r : V → Hp → VK → Prop) : Prop :=
  ∀ (pins : List (Addr × Obj)) (s : Shared) (σ : St) (H : Hp) (x : V) (v : Value) (Q : VK), Inv X pins σ H s → RelV x v → r x H Q →
    wpAny (model X.prog X.w) X.A (f v) (EP X pins σ Q) X.xe s
/-- a call of a value that is known (a builtin, a type) with values -/
def CallR (X : Cx) (f : Value) (r : List V → Hp → VK → Prop) : Prop :=
  ∀ (pins : List (Addr × Obj)) (s : Shared) (σ : St) (H : Hp) (xs : List V) (us : List Value) (Q : VK), Inv X pins σ H s → Vals xs us → r xs H Q →
    wpAny (model X.prog X.w) X.A (call f us) (EP X pins σ Q) X.xe s

def tOp (r : R2) (ta tb : TE) : TE := fun σ H Q => ta σ H fun x H1 => tb σ H1 fun y H2 => r x y H2 Q
def tUn (r : V → Hp → VK → Prop) (ta : TE) : TE := fun σ H Q => ta σ H fun x H1 => r x H1 Q
/-- ints in, under C, and a value out -/
def rI (C : Int → Int → Prop) (g : Int → Int → V) : R2 := fun x y H Q => ∃ i j, x = .int i ∧ y = .int j ∧ C i j ∧ Q (g i j) H
def rI0 (g : Int → Int → V) : R2 := fun x y H Q => ∃ i j, x = .int i ∧ y = .int j ∧ Q (g i j) H
def rU (g : Int → V) : V → Hp → VK → Prop := fun x H Q => ∃ i, x = .int i ∧ Q (g i) H

section
variable {X : Cx} {a b c : Expr} {ta tb tc : TE} {pos : Pos}

theorem binT (ha : PE X a ta) (hb : PE X b tb) {pins : List (Addr × Obj)} {s : Shared} {σ : St} {H : Hp} {R : V → V → Hp → Prop} (I : Inv X pins σ H s)
    (h : ta σ H fun x H1 => tb σ H1 fun y H2 => R x y H2) {Q : Value → Shared → Prop} {f : Value → Value → Sem Value}
    (hf : ∀ v u s2 x y H2, Inv X pins σ H2 s2 → RelV x v → RelV y u → R x y H2 → wpAny (model X.prog X.w) X.A (f v u) Q X.xe s2) :
    wpAny (model X.prog X.w) X.A (eval a X.env) (fun v s₁ => wpAny (model X.prog X.w) X.A (eval b X.env) (fun u s₂ => wpAny (model X.prog X.w) X.A (f v u) Q X.xe s₂) X.xe s₁) X.xe s := by
  refine thn (ha pins s σ H _ I h) fun v s1 ⟨x, H1, I1, r1, q1⟩ => ?_
  refine thn (hb pins s1 σ H1 _ I1 q1) fun u s2 ⟨y, H2, I2, r2, q2⟩ => ?_
  exact hf v u s2 x y H2 I2 r1 r2 q2

theorem pe_op {op : Operator} {r : R2} (ho : OpR X (binaryOp op) r) (ha : PE X a ta) (hb : PE X b tb) : PE X (.BinOp a op b pos) (tOp r ta tb) := by
  intro pins s σ H Q I h
  exact wpAny_BinOp (binT ha hb I h fun v u s2 x y H2 I2 rx ry q => ho pins s2 σ H2 x y v u Q I2 rx ry q)
theorem pe_un {op : UnaryOp} {r : V → Hp → VK → Prop} (ho : UnR X (unaryOp op) r) (ha : PE X a ta) : PE X (.UnaryOp op a pos) (tUn r ta) := by
  intro pins s σ H Q I h
  exact UnaryOp_ (thn (ha pins s σ H _ I h) fun v s1 ⟨x, H1, I1, r1, q1⟩ => ho pins s1 σ H1 x v Q I1 r1 q1)

/-! ### ints -/
theorem opI {f : Value → Value → Sem Value} {C : Int → Int → Prop} {g : Int → Int → Int}
    (rule : ∀ (i j : Int) (t u : Tok) (s : Shared) (Q : Value → Shared → Prop) (E : Value → Shared → Prop), C i j → Q (.int (g i j) s.toks) { s with toks := s.toks + 1 } → wpAny (model X.prog X.w) X.A (f (.int i t) (.int j u)) Q E s) :
    OpR X f (rI C fun i j => .int (g i j)) := by
  intro pins s σ H x y v u Q I rx ry h
  obtain ⟨i, j, rfl, rfl, hc, q⟩ := h
  obtain ⟨t, rfl⟩ := rx
  obtain ⟨t', rfl⟩ := ry
  exact rule i j t t' s _ _ hc ⟨.int (g i j), H, I.tok _, ⟨_, rfl⟩, q⟩
theorem opI0 {f : Value → Value → Sem Value} {g : Int → Int → Int}
    (rule : ∀ (i j : Int) (t u : Tok) (s : Shared) (Q : Value → Shared → Prop) (E : Value → Shared → Prop), Q (.int (g i j) s.toks) { s with toks := s.toks + 1 } → wpAny (model X.prog X.w) X.A (f (.int i t) (.int j u)) Q E s) :
    OpR X f (rI0 fun i j => .int (g i j)) := by
  intro pins s σ H x y v u Q I rx ry h
  obtain ⟨i, j, rfl, rfl, q⟩ := h
  obtain ⟨t, rfl⟩ := rx
  obtain ⟨t', rfl⟩ := ry
  exact rule i j t t' s _ _ ⟨.int (g i j), H, I.tok _, ⟨_, rfl⟩, q⟩
theorem opB0 {f : Value → Value → Sem Value} {g : Int → Int → Bool}
    (rule : ∀ (i j : Int) (t u : Tok) (s : Shared) (Q : Value → Shared → Prop) (E : Value → Shared → Prop), Q (.bool (g i j)) s → wpAny (model X.prog X.w) X.A (f (.int i t) (.int j u)) Q E s) :
    OpR X f (rI0 fun i j => .bl (g i j)) := by
  intro pins s σ H x y v u Q I rx ry h
  obtain ⟨i, j, rfl, rfl, q⟩ := h
  obtain ⟨t, rfl⟩ := rx
  obtain ⟨t', rfl⟩ := ry
  exact rule i j t t' s _ _ ⟨.bl (g i j), H, I, rfl, q⟩

def CDiv (i j : Int) : Prop := 0 < j ∧ j < 1073741824
def CMul (i j : Int) : Prop := (-(2 ^ 64) < i ∧ i < 2 ^ 64) ∨ (-(2 ^ 64) < j ∧ j < 2 ^ 64)
theorem CMul.ok {i j : Int} (h : CMul i j) : IntMulOk i j := by
  rcases h with ⟨h1, h2⟩ | ⟨h1, h2⟩
  · exact .of_left (intBits_le_64 h1 h2)
  · exact .of_right (intBits_le_64 h1 h2)

theorem op_add : OpR X (binaryOp .Add) (rI0 fun i j => .int (i + j)) := opI0 fun _ _ _ _ _ _ _ q => add_int q
theorem op_sub : OpR X (binaryOp .Sub) (rI0 fun i j => .int (i - j)) := opI0 fun _ _ _ _ _ _ _ q => sub_int q
theorem op_mul : OpR X (binaryOp .Mult) (rI CMul fun i j => .int (i * j)) := opI fun _ _ _ _ _ _ _ hc q => mul_int q hc.ok
/-- // by a positive divisor -/
theorem op_fdiv : OpR X (binaryOp .FloorDiv) (rI CDiv fun i j => .int (i / j)) := opI fun i j _ _ _ _ _ hc q => by
  have h1 : (0 : Int) < j := hc.1
  have h2 : j < 1073741824 := hc.2
  exact floordiv_int (by omega) (by rw [Int.fdiv_eq_ediv_of_nonneg i (by omega)]; exact q) (.inl (PyProof.noPylong_small (by omega)))
/-- % by a positive divisor of any size -/
theorem op_mod : OpR X (binaryOp .Mod) (rI (fun _ j => 0 < j) fun i j => .int (i % j)) := opI fun i j _ _ _ _ _ hc q => by
  have h1 : (0 : Int) < j := hc
  exact mod_int' (by omega) (by rw [Int.fmod_eq_emod_of_nonneg i (by omega)]; exact q)


theorem unI {f : Value → Sem Value} {g : Int → Int}
    (rule : ∀ (i : Int) (t : Tok) (s : Shared) (Q : Value → Shared → Prop) (E : Value → Shared → Prop), Q (.int (g i) s.toks) { s with toks := s.toks + 1 } → wpAny (model X.prog X.w) X.A (f (.int i t)) Q E s) :
    UnR X f (rU fun i => .int (g i)) := by
  intro pins s σ H x v Q I rx h
  obtain ⟨i, rfl, q⟩ := h
  obtain ⟨t, rfl⟩ := rx
  exact rule i t s _ _ ⟨.int (g i), H, I.tok _, ⟨_, rfl⟩, q⟩
theorem un_neg : UnR X (unaryOp .USub) (rU fun i => .int (-i)) := unI fun _ _ _ _ _ q => neg_int q

/-! ### bools among ints: n += (a < b) -/
end

/-! ### comparisons -/
/-- the scalars that == tells apart as data does -/
def scal : V → V → Bool
  | .non, .non => true | .non, .int _ => true | .int _, .non => true | .non, .bl _ => true | .bl _, .non => true | .non, .str _ => true | .str _, .non => true
  | .int _, .int _ => true | .bl _, .bl _ => true | .str _, .str _ => true | .byt _, .byt _ => true
  | .int _, .str _ => true | .str _, .int _ => true | .bl _, .str _ => true | .str _, .bl _ => true
  | _, _ => false
def rEq : R2 := fun x y H Q => scal x y = true ∧ Q (.bl (decide (x = y))) H
def rNe : R2 := fun x y H Q => scal x y = true ∧ Q (.bl (!decide (x = y))) H

theorem dec_int {i j : Int} : decide (V.int i = V.int j) = (i == j) := by
  rw [Bool.eq_iff_iff]
  simp
theorem dec_bl {i j : Bool} : decide (V.bl i = V.bl j) = (i == j) := by
  rw [Bool.eq_iff_iff]
  simp
theorem dec_str {i j : Str} : decide (V.str i = V.str j) = (i == j) := by
  rw [Bool.eq_iff_iff]
  simp
theorem dec_byt {i j : Array UInt8} : decide (V.byt i = V.byt j) = (i.toList == j.toList) := by
  rw [Bool.eq_iff_iff]
  cases i
  cases j
  simp

section
variable {X : Cx} {a b c : Expr} {ta tb tc : TE} {pos : Pos}
theorem fin_bl {pins : List (Addr × Obj)} {σ : St} {H : Hp} {s : Shared} {Q : VK} {k k' : Bool} (I : Inv X pins σ H s) (q : Q (.bl k) H) (e : k = k') : EP X pins σ Q (.bool k') s := by
  subst e
  exact ⟨.bl k, H, I, rfl, q⟩
theorem op_eq : OpR X (compareOp .Eq) rEq := by
  intro pins s σ H x y v u Q I rx ry h
  obtain ⟨hs, q⟩ := h
  cases x with
  | non =>
    cases rx
    cases y with
    | non => cases ry; exact PySem.EqNone.eq_none_none (fin_bl I q (by simp))
    | bl j => cases ry; exact PySem.EqNone.eq_none_bool (fin_bl I q (by simp))
    | int j => obtain ⟨t', rfl⟩ := ry; exact PySem.EqNone.eq_none_int (fin_bl I q (by simp))
    | str j => obtain ⟨t', rfl⟩ := ry; exact PySem.EqNone.eq_none_str (fin_bl I q (by simp))
    | _ => exact absurd (show false = true from hs) Bool.false_ne_true
  | bl i =>
    cases rx
    cases y with
    | non => cases ry; exact PySem.EqNone.eq_bool_none (fin_bl I q (by simp))
    | bl j => cases ry; exact eq_bool (fin_bl I q dec_bl)
    | str j => obtain ⟨t', rfl⟩ := ry; exact PySem.EqMixed.eq_bool_str (fin_bl I q (by simp))
    | _ => exact absurd (show false = true from hs) Bool.false_ne_true
  | int i =>
    obtain ⟨t, rfl⟩ := rx
    cases y with
    | non => cases ry; exact PySem.EqNone.eq_int_none (fin_bl I q (by simp))
    | int j => obtain ⟨t', rfl⟩ := ry; exact eq_int (fin_bl I q dec_int)
    | str j => obtain ⟨t', rfl⟩ := ry; exact PySem.EqMixed.eq_int_str (fin_bl I q (by simp))
    | _ => exact absurd (show false = true from hs) Bool.false_ne_true
  | str i =>
    obtain ⟨t, rfl⟩ := rx
    cases y with
    | non => cases ry; exact PySem.EqNone.eq_str_none (fin_bl I q (by simp))
    | bl j => cases ry; exact PySem.EqMixed.eq_str_bool (fin_bl I q (by simp))
    | int j => obtain ⟨t', rfl⟩ := ry; exact PySem.EqMixed.eq_str_int (fin_bl I q (by simp))
    | str j => obtain ⟨t', rfl⟩ := ry; exact eq_str (fin_bl I q dec_str)
    | _ => exact absurd (show false = true from hs) Bool.false_ne_true
  | byt i =>
    obtain ⟨t, rfl⟩ := rx
    cases y with
    | byt j => obtain ⟨t', rfl⟩ := ry; exact PySem.W.eq_bytes (fin_bl I q dec_byt)
    | _ => exact absurd (show false = true from hs) Bool.false_ne_true
  | _ => cases y <;> exact absurd (show false = true from hs) Bool.false_ne_true
theorem op_ne : OpR X (compareOp .NotEq) rNe := by
  intro pins s σ H x y v u Q I rx ry h
  obtain ⟨hs, q⟩ := h
  cases x with
  | non =>
    cases rx
    cases y with
    | non => cases ry; exact PySem.EqNone.ne_none_none (fin_bl I q (by simp))
    | bl j => cases ry; exact PySem.EqNone.ne_none_bool (fin_bl I q (by simp))
    | int j => obtain ⟨t', rfl⟩ := ry; exact PySem.EqNone.ne_none_int (fin_bl I q (by simp))
    | str j => obtain ⟨t', rfl⟩ := ry; exact PySem.EqNone.ne_none_str (fin_bl I q (by simp))
    | _ => exact absurd (show false = true from hs) Bool.false_ne_true
  | bl i =>
    cases rx
    cases y with
    | non => cases ry; exact PySem.EqNone.ne_bool_none (fin_bl I q (by simp))
    | bl j => cases ry; exact ne_bool (fin_bl I q (congrArg not dec_bl))
    | str j => obtain ⟨t', rfl⟩ := ry; exact PySem.EqMixed.ne_bool_str (fin_bl I q (by simp))
    | _ => exact absurd (show false = true from hs) Bool.false_ne_true
  | int i =>
    obtain ⟨t, rfl⟩ := rx
    cases y with
    | non => cases ry; exact PySem.EqNone.ne_int_none (fin_bl I q (by simp))
    | int j => obtain ⟨t', rfl⟩ := ry; exact ne_int (fin_bl I q (congrArg not dec_int))
    | str j => obtain ⟨t', rfl⟩ := ry; exact PySem.EqMixed.ne_int_str (fin_bl I q (by simp))
    | _ => exact absurd (show false = true from hs) Bool.false_ne_true
  | str i =>
    obtain ⟨t, rfl⟩ := rx
    cases y with
    | non => cases ry; exact PySem.EqNone.ne_str_none (fin_bl I q (by simp))
    | bl j => cases ry; exact PySem.EqMixed.ne_str_bool (fin_bl I q (by simp))
    | int j => obtain ⟨t', rfl⟩ := ry; exact PySem.EqMixed.ne_str_int (fin_bl I q (by simp))
    | str j => obtain ⟨t', rfl⟩ := ry; exact ne_str (fin_bl I q (congrArg not dec_str))
    | _ => exact absurd (show false = true from hs) Bool.false_ne_true
  | byt i =>
    obtain ⟨t, rfl⟩ := rx
    cases y with
    | byt j => obtain ⟨t', rfl⟩ := ry; exact PySem.W.ne_bytes (fin_bl I q (congrArg not dec_byt))
    | _ => exact absurd (show false = true from hs) Bool.false_ne_true
  | _ => cases y <;> exact absurd (show false = true from hs) Bool.false_ne_true

theorem op_lt : OpR X (compareOp .Lt) (rI0 fun i j => .bl (decide (i < j))) := opB0 fun _ _ _ _ _ _ _ q => lt_int q
theorem op_le : OpR X (compareOp .LtE) (rI0 fun i j => .bl (decide (i ≤ j))) := opB0 fun _ _ _ _ _ _ _ q => le_int q
theorem op_gt : OpR X (compareOp .Gt) (rI0 fun i j => .bl (decide (j < i))) := opB0 fun _ _ _ _ _ _ _ q => gt_int q
theorem op_ge : OpR X (compareOp .GtE) (rI0 fun i j => .bl (decide (j ≤ i))) := opB0 fun _ _ _ _ _ _ _ q => ge_int q




theorem nomark (b : Expr) {op : CmpOp} (h : op ≠ .In := by decide) (h2 : op ≠ .NotIn := by decide) : behindInMarks op b = false := by
  have e1 : (op == CmpOp.In) = false := by cases op <;> first | rfl | exact absurd rfl h
  have e2 : (op == CmpOp.NotIn) = false := by cases op <;> first | rfl | exact absurd rfl h2
  cases b <;> simp [behindInMarks, e1, e2]
/-- a comparison as a value; hm: nomark b, or (for in, not in) by with_unfolding_all rfl -/
theorem pe_cmpR {op : CmpOp} {r : R2} (ho : OpR X (compareOp op) r) (ha : PE X a ta) (hb : PE X b tb) (hm : behindInMarks op b = false) : PE X (.Compare a [op] [b] pos) (tOp r ta tb) := by
  intro pins s σ H Q I h
  exact wpAny_Compare1 (binT ha hb I h fun v u s2 x y H2 I2 rx ry q => ho pins s2 σ H2 x y v u Q I2 rx ry q) hm
/-- a reading of a value as a test -/
def tTest (t : TE) : TT := fun σ H Q => t σ H fun x H' => ∃ k, x = .bl k ∧ Q k H'
theorem pt_cmpR {op : CmpOp} {r : R2} (ho : OpR X (compareOp op) r) (ha : PE X a ta) (hb : PE X b tb) (hm : behindInMarks op b = false) : PT X (.Compare a [op] [b] pos) (tTest (tOp r ta tb)) := by
  intro pins s σ H Q I h
  refine wpAny_isTrue_Compare1 (thn (ha pins s σ H _ I h) fun v s1 ⟨x, H1, I1, r1, q1⟩ => thn (hb pins s1 σ H1 _ I1 q1) fun u s2 ⟨y, H2, I2, r2, q2⟩ =>
    thn (ho pins s2 σ H2 x y v u _ I2 r1 r2 q2) fun c s3 ⟨z, H3, I3, r3, k, e, q3⟩ => ?_) hm
  subst e
  cases r3
  exact wpAny_truthy_bool ⟨H3, I3, q3⟩

/-! ### truth -/
theorem line63 : (sizeLine : Nat) < 2 ^ 63 := by rw [sizeLine_eq]; decide

/-! ### strs and bytes -/
theorem op_add_str : OpR X (binaryOp .Add) (fun x y H Q => ∃ i j, x = .str i ∧ y = .str j ∧ i.length + j.length ≤ sizeLine ∧ Q (.str (i ++ j)) H) := by
  intro pins s σ H x y v u Q I rx ry h
  obtain ⟨i, j, rfl, rfl, hz, q⟩ := h
  obtain ⟨t, rfl⟩ := rx
  obtain ⟨t', rfl⟩ := ry
  exact add_str (fun t' tk => ⟨.str (i ++ j), H, I.tok _, ⟨_, rfl⟩, q⟩) hz
theorem iop_add_str : OpR X (inplaceOp .Add) (fun x y H Q => ∃ i j, x = .str i ∧ y = .str j ∧ i.length + j.length ≤ sizeLine ∧ Q (.str (i ++ j)) H) := by
  intro pins s σ H x y v u Q I rx ry h
  obtain ⟨i, j, rfl, rfl, hz, q⟩ := h
  obtain ⟨t, rfl⟩ := rx
  obtain ⟨t', rfl⟩ := ry
  exact iadd_str (fun t' tk => ⟨.str (i ++ j), H, I.tok _, ⟨_, rfl⟩, q⟩) hz


/-! ### scalar builtins, by CallR -/
theorem vals1 {x : V} {us : List Value} (r : Vals [x] us) : ∃ u, us = [u] ∧ RelV x u := by
  cases r with
  | cons r1 r2 => cases r2; exact ⟨_, rfl, r1⟩
theorem call_str_int : CallR X (.type "str") (fun xs H Q => ∃ i, xs = [.int i] ∧ i.natAbs.log2 < 1920 ∧ Q (.str (toString i)) H) := by
  intro pins s σ H xs us Q I r h
  obtain ⟨i, rfl, hz, q⟩ := h
  obtain ⟨u, rfl, t, rfl⟩ := vals1 r
  exact PySem.P.str_of_int hz ⟨.str _, H, I.tok _, ⟨_, rfl⟩, q⟩
end
end L2

namespace L2
open PySem PySem.Spec PyProof.Rows

/-! ### an instance, its attributes a map -/
structure ObjM (h : Heap) (x dx C : Addr) (mA : Str → Option Value) : Prop where
  obj : h.get? x = some (PySem.W.instObj C dx)
  ns : h.Ns1 dx mA
  ne : dx ≠ x

theorem lookIn_ns {h : Heap} {dx : Addr} {mA : Str → Option Value} (n : h.Ns1 dx mA) : ∃ od, h.get? dx = some od ∧ ∀ name, PySem.W.lookIn name od = some (mA name) := by
  obtain ⟨o, es, ep, ho, hd, hk, _, hm⟩ := n
  refine ⟨o, ho, fun name => ?_⟩
  have e := hm name
  unfold nsFind findBy at e
  rw [← Array.find?_toList] at e
  unfold PySem.W.lookIn
  rw [hd]
  dsimp only
  split
  · rename_i y q
    rw [q] at e
    exact congrArg some e
  · rename_i q
    rw [q] at e
    have a : es.toList.any (·.refKey) = false := by
      rw [List.any_eq_false]
      intro y hy
      obtain ⟨z, t, hkey⟩ := hk y (Array.mem_toList_iff.mp hy)
      simp [DictEntry.refKey, hkey]
    have a' : ¬ es.toList.any (·.refKey) = true := by rw [a]; exact Bool.false_ne_true
    rw [if_neg a']
    exact congrArg some e

theorem ObjM.look {h : Heap} {x dx C : Addr} {mA : Str → Option Value} (I : ObjM h x dx C mA) : ∃ od, PySem.W.InstAt h x (PySem.W.instObj C dx) C (some od) ∧ ∀ name, PySem.W.lookIn name od = some (mA name) :=
  let ⟨od, ho, hl⟩ := lookIn_ns I.ns
  ⟨od, ⟨I.obj, rfl, rfl, ho⟩, hl⟩

section
variable {prog : Program} {w : World} {A : Around} {E : Value → Shared → Prop} {s : Shared} {K : PySem.W.Frag} {x dx C f : Addr} {mA : Str → Option Value} {name : Str} {v : Value}

theorem get_map {expr : Bool} {Q : Value → Shared → Prop} (X : K.In s.heap) (I : ObjM s.heap x dx C mA) (hg : PySem.W.plainGet K C name = true) (hh : PySem.W.hasDictIn K C = true)
    (ha : PySem.W.findIn K (.ref C) name = some none) (hv : mA name = some v) (hv' : PySem.W.handedIn v = true) (h : Q v { s with toks := s.toks + 1 }) :
    wpAny (model prog w) A (getAttr (.ref x) name expr) Q E s := by
  obtain ⟨od, J, hl⟩ := I.look
  exact PySem.W.get_value X J (PySem.W.plainGet_of hg).1 (PySem.W.findObj_own hh ha rfl (by rw [hl, hv])) hv' h


theorem get_meth {pl : Sem Bool} {Q : Value × List Value → Shared → Prop} (X : K.In s.heap) (I : ObjM s.heap x dx C mA) (hg : PySem.W.plainGet K C name = true)
    (hf : PySem.W.findIn K (.ref C) name = some (some (.ref f))) (ht : PySem.W.isFn K (.ref f) = true) (hv : mA name = none) (h : Q (.ref f, [.ref x]) s) :
    wpAny (model prog w) A (getMethod (.ref x) name pl) Q E s := by
  obtain ⟨od, J, hl⟩ := I.look
  exact PySem.W.method_fn X J (PySem.W.plainGet_of hg).1 (PySem.W.plainGet_of hg).2 hf (beq_iff_eq.mp ht) (by show (PySem.W.lookIn name od).map (·.isSome) = some false; rw [hl, hv]; rfl) h

theorem set_map {ns : List Str} {Q : Unit → Shared → Prop} (X : K.In s.heap) (I : ObjM s.heap x dx C mA)
    (hs : PySem.W.findIn K (.ref C) "__setattr__" = some (some (.builtin "object.__setattr__"))) (hp : PySem.W.plainOver K C = true) (ht : PySem.W.takerIn K C name = some none) (hh : PySem.W.hasDictIn K C = true)
    (hw : PySem.Within mA ns) (hsz : ns.length ≤ sizeLine)
    (h : ∀ h', ObjM h' x dx C (fun y => if y = name then some v else mA y) → Heap.SameBut dx s.heap h' → Q () { s with heap := h', toks := s.toks + 2 }) :
    wpAny (model prog w) A (setAttr (.ref x) name v) Q E s := by
  obtain ⟨od, J, hl⟩ := I.look
  refine PySem.W.set_plain X J hs (PySem.W.osa_open (s := { s with toks := s.toks + 1 }) (r := none) X J hp ht fun b => ?_)
  obtain ⟨cd, hc, hd'⟩ := PySem.W.any_some hh
  have hx : s.heap.get? x = some ⟨.ref C, some dx, .plain, #[]⟩ := I.obj
  refine wpAny_bind (wpAny_pure (wpAny_bind (wpAny_bind (wpAny_loadPart hx (wpAny_bind (PySem.W.Looks.here (s := { s with toks := s.toks + 1 }) (PySem.W.looks_clsIn X hc) ?_))))))
  rw [hd']
  refine wpAny_pure (a := some dx) (wpAny_bind (wpAny_pure (wpAny_bind ?_)))
  refine wpAny_nsSet1 (s := { s with toks := s.toks + 1 }) I.ns fun h' hn2 hs2 => ?_
  obtain ⟨oD, esD, epD, hoD, hdD, hcD⟩ := hn2.count (PySem.Within.cons name v hw)
  refine wpAny_bind (wpAny_lookBehind hoD (by rw [hdD]; exact pastItsLine_dict (Nat.le_trans hcD (by rw [List.length_cons]; omega))) ?_)
  exact wpAny_pure (h _ ⟨(hs2.2 _ (Ne.symm I.ne)).trans I.obj, hn2, I.ne⟩ hs2)

/-- C(..): the dict at the heap's end, the instance behind it; then its __init__ -/
theorem make_map {R : Result → Shared → Prop} {vs : List Value} {kw : List (Str × Value)} (X : K.In s.heap) (hm : PySem.W.makesIn K C = true)
    (hi : PySem.W.findIn K (.ref C) "__init__" = some (some (.ref f))) (hf : PySem.W.typeIn K (.ref f) = some (.type "function"))
    (h : codeAny (model prog w) (A.under (.builtin "type.__call__" ⟨.ref C :: vs, kw⟩)) (.call (.ref f) ⟨.ref (s.heap.objs.size + 1) :: vs, kw⟩) (PySem.W.InitBack (s.heap.objs.size + 1) R)
      { s with heap := (s.heap.push PySem.W.emptyDict).push (PySem.W.instObj C s.heap.objs.size) }) :
    codeAny (model prog w) A (.call (.ref C) ⟨vs, kw⟩) R s := by
  obtain ⟨hh, g, d, t, os⟩ := s
  exact PySem.W.make_core (PySem.W.makes_of X hm) (PySem.W.looks_findIn X hi) (fun self => PySem.W.bind_fn X self hf) (.inl rfl) h
end

/-! ### the attributes as a list of pairs -/
def putF (f : Str) (v : V) : List (Str × V) → List (Str × V)
  | [] => [(f, v)]
  | (g, x) :: r => if g = f then (g, v) :: r else (g, x) :: putF f v r
theorem lookup_putF (f g : Str) (v : V) : ∀ fs : List (Str × V), (putF f v fs).lookup g = if g = f then some v else fs.lookup g
  | [] => by
    show List.lookup g [(f, v)] = _
    by_cases h : g = f
    · have hb : (g == f) = true := beq_iff_eq.mpr h
      simp only [List.lookup, hb, if_pos h]
    · have hb : (g == f) = false := beq_eq_false_iff_ne.mpr h
      simp only [List.lookup, hb, if_neg h]
  | (k, x) :: r => by
    have ih := lookup_putF f g v r
    rw [show putF f v ((k, x) :: r) = (if k = f then (k, v) :: r else (k, x) :: putF f v r) from rfl]
    by_cases hk : k = f
    · rw [if_pos hk]
      by_cases h : g = k
      · have hb : (g == k) = true := beq_iff_eq.mpr h
        simp only [List.lookup, hb, if_pos (h.trans hk)]
      · have hb : (g == k) = false := beq_eq_false_iff_ne.mpr h
        simp only [List.lookup, hb, if_neg (fun e : g = f => h (e.trans hk.symm))]
    · rw [if_neg hk]
      by_cases h : g = k
      · have hb : (g == k) = true := beq_iff_eq.mpr h
        simp only [List.lookup, hb, if_neg (fun e : g = f => hk (h.symm.trans e))]
      · have hb : (g == k) = false := beq_eq_false_iff_ne.mpr h
        simp only [List.lookup, hb]
        exact ih
theorem keys_putF (f : Str) (v : V) : ∀ fs : List (Str × V), f ∈ (putF f v fs).map (·.1) ∧ ∀ g, g ∈ fs.map (·.1) → g ∈ (putF f v fs).map (·.1)
  | [] => ⟨by simp [putF], fun g h => by simp at h⟩
  | (k, x) :: r => by
    obtain ⟨i1, i2⟩ := keys_putF f v r
    rw [show putF f v ((k, x) :: r) = (if k = f then (k, v) :: r else (k, x) :: putF f v r) from rfl]
    by_cases hk : k = f
    · rw [if_pos hk]
      subst hk
      exact ⟨by simp, fun g h => by simpa using h⟩
    · rw [if_neg hk]
      refine ⟨?_, fun g h => ?_⟩
      · rw [List.map_cons]
        exact List.mem_cons_of_mem _ i1
      · rw [List.map_cons] at h ⊢
        rcases List.mem_cons.mp h with e | e
        · exact List.mem_cons.mpr (.inl e)
        · exact List.mem_cons_of_mem _ (i2 g e)
theorem length_putF (f : Str) (v : V) : ∀ fs : List (Str × V), (putF f v fs).length ≤ fs.length + 1
  | [] => by simp [putF]
  | (k, x) :: r => by
    have ih := length_putF f v r
    rw [show putF f v ((k, x) :: r) = (if k = f then (k, v) :: r else (k, x) :: putF f v r) from rfl]
    by_cases hk : k = f
    · rw [if_pos hk, List.length_cons, List.length_cons]; omega
    · rw [if_neg hk, List.length_cons, List.length_cons]; omega

theorem RelO.some_of {v : V} {o : Option Value} (r : RelO (some v) o) : ∃ u, o = some u ∧ RelV v u := by
  cases o with
  | none => exact (show False from r).elim
  | some u => exact ⟨u, rfl, r⟩
theorem RelO.none_of {o : Option Value} (r : RelO none o) : o = none := by
  cases o with
  | none => rfl
  | some u => exact (show False from r).elim
theorem handed_of {v : V} {u : Value} (r : RelV v u) : PySem.W.handedIn u = true := by
  cases v with
  | non => cases (show u = Value.none from r); rfl
  | bl b => cases (show u = Value.bool b from r); rfl
  | int i => obtain ⟨t, e⟩ := (show ∃ t, u = Value.int i t from r); cases e; rfl
  | str x => obtain ⟨t, e⟩ := (show ∃ t, u = Value.str x t from r); cases e; rfl
  | byt b => obtain ⟨t, e⟩ := (show ∃ t, u = Value.bytes b t from r); cases e; rfl
  | flt b => obtain ⟨t, e⟩ := (show ∃ t, u = Value.float b t from r); cases e; rfl
  | ref a => cases (show u = Value.ref a from r); rfl
  | ty n => cases (show u = Value.type n from r); rfl

section
variable {P : Program} {w : World} {H H' : Hp} {h h' : Heap} {a C dx : Addr} {fs fs' : List (Str × V)}
theorem ins_get (hok : HOk P w H h) (e : H a = some (.ins C dx fs)) : ∃ mA, ObjM h a dx C mA ∧ (∀ f, RelO (fs.lookup f) (mA f)) ∧ PySem.Within mA (fs.map (·.1)) ∧ fs.length ≤ 1000 ∧ H dx = some (.own a) := by
  obtain ⟨d, z, ne, ob, mA, n, r, q⟩ := (show ObjOk P w H h a (.ins C dx fs) from hok a _ e)
  exact ⟨mA, ⟨ob, n, ne⟩, r, q, z, d⟩
end

/-! ### what of the text a class must have -/
structure Cls (K : PySem.W.Frag) (C : Addr) : Prop where
  pg : PySem.W.plainGet K C Str.empty = true
  hd : PySem.W.hasDictIn K C = true
  po : PySem.W.plainOver K C = true
  sa : PySem.W.findIn K (.ref C) "__setattr__" = some (some (.builtin "object.__setattr__"))
theorem Cls.get {K : PySem.W.Frag} {C : Addr} (c : Cls K C) (f : Str) : PySem.W.plainGet K C f = true := c.pg
/-- no class of it has the name -/
def NoAttr (K : PySem.W.Frag) (C : Addr) (f : Str) : Prop := PySem.W.findIn K (.ref C) f = some none
theorem NoAttr.taker {K : PySem.W.Frag} {C : Addr} {f : Str} (n : NoAttr K C f) : PySem.W.takerIn K C f = some none := by
  unfold PySem.W.takerIn
  rw [show PySem.W.findIn K (.ref C) f = some none from n]
  rfl
/-- a method: a plain def of the class or of one above it -/
structure Meth (K : PySem.W.Frag) (C : Addr) (m : Str) (f : Addr) : Prop where
  at_ : PySem.W.findIn K (.ref C) m = some (some (.ref f))
  fn : PySem.W.isFn K (.ref f) = true
  kp : PySem.W.keepIn K (.ref f) = true

section
variable {X : Cx} {pins : List (Addr × Obj)} {σ : St} {H : Hp} {s : Shared} {a C dx : Addr} {fs : List (Str × V)} {f : Str} {v : V} {A : Around} {E : Value → Shared → Prop}

theorem getattr_ok {b : Bool} {Q : Value → Shared → Prop} (I : Inv X pins σ H s) (e : H a = some (.ins C dx fs)) (c : Cls X.K C) (n : NoAttr X.K C f) (l : fs.lookup f = some v)
    (h : ∀ u s', Inv X pins σ H s' → RelV v u → Q u s') : wpAny (model X.prog X.w) A (getAttr (.ref a) f b) Q E s := by
  obtain ⟨mA, O, r, _, _, _⟩ := ins_get I.hok e
  obtain ⟨u, hu, ru⟩ := RelO.some_of (v := v) (o := mA f) (by rw [← l]; exact r f)
  exact get_map I.kIn O (c.get f) c.hd n hu (handed_of ru) (h u _ (I.tok _) ru)


theorem getmeth_ok {m : Str} {g : Addr} {pl : Sem Bool} {Q : Value × List Value → Shared → Prop} (I : Inv X pins σ H s) (e : H a = some (.ins C dx fs)) (c : Cls X.K C) (k : Meth X.K C m g) (l : fs.lookup m = none)
    (h : Q (.ref g, [.ref a]) s) : wpAny (model X.prog X.w) A (getMethod (.ref a) m pl) Q E s := by
  obtain ⟨mA, O, r, _, _, _⟩ := ins_get I.hok e
  have hn : mA m = none := RelO.none_of (by rw [← l]; exact r m)
  exact get_meth I.kIn O (c.get m) k.at_ k.fn hn h

theorem setattr_ok {y : V} {u : Value} {Q : Unit → Shared → Prop} (I : Inv X pins σ H s) (e : H a = some (.ins C dx fs)) (c : Cls X.K C) (n : NoAttr X.K C f) (hl : fs.length < 1000) (ry : RelV y u)
    (h : ∀ s', Inv X pins σ (upd H a (.ins C dx (putF f y fs))) s' → Q () s') : wpAny (model X.prog X.w) A (setAttr (.ref a) f u) Q E s := by
  obtain ⟨mA, O, r, wi, _, ho⟩ := ins_get I.hok e
  have hz : (fs.map (·.1)).length ≤ sizeLine := by rw [List.length_map, sizeLine_eq]; omega
  refine set_map I.kIn O c.sa c.po n.taker c.hd wi hz fun h' O' sb => h _ ?_
  have hd : ∃ o, h'.get? dx = some o := let ⟨o, _, _, e', _⟩ := O'.ns; ⟨o, e'⟩
  refine I.write (x := a) (e := dx) (by rw [e]; exact True.intro) (.inr ho) (fun b q hb z => (sb.2 b hb).trans z) hd ?_
  refine ⟨by rw [upd_ne O.ne]; exact ho, ?_, O.ne, O'.obj, _, O'.ns, fun g => ?_, fun g hg => ?_⟩
  · have := length_putF f y fs; omega
  · show RelO ((putF f y fs).lookup g) (if g = f then some u else mA g)
    rw [lookup_putF]
    by_cases q : g = f
    · rw [if_pos q, if_pos q]; exact ry
    · rw [if_neg q, if_neg q]; exact r g
  · by_cases q : g = f
    · rw [q]; exact (keys_putF f y fs).1
    · refine (keys_putF f y fs).2 g (wi g fun z => hg ?_)
      show (if g = f then some u else mA g) = none
      rw [if_neg q]; exact z

/-- a new instance, tracked, without attributes -/
theorem Inv.made (I : Inv X pins σ H s) : Inv X pins σ (upd (upd H s.heap.objs.size (.own (s.heap.objs.size + 1))) (s.heap.objs.size + 1) (.ins C s.heap.objs.size []))
    { s with heap := (s.heap.push PySem.W.emptyDict).push (PySem.W.instObj C s.heap.objs.size) } := by
  have e1 : (s.heap.push PySem.W.emptyDict).get? s.heap.objs.size = some PySem.W.emptyDict := Heap.get?_push_size s.heap rfl
  have e2 : ((s.heap.push PySem.W.emptyDict).push (PySem.W.instObj C s.heap.objs.size)).get? (s.heap.objs.size + 1) = some (PySem.W.instObj C s.heap.objs.size) := by
    have := Heap.get?_push_size (s.heap.push PySem.W.emptyDict) (o := PySem.W.instObj C s.heap.objs.size) rfl
    rwa [Heap.size_push] at this
  have e3 : (s.heap.push PySem.W.emptyDict).Ns s.heap.objs.size (fun _ => none) := ⟨PySem.W.emptyDict, #[], _, e1, rfl, (fun e he => absurd he (by simp)), fun _ => rfl⟩
  have I1 := I.laid (a := s.heap.objs.size) (o := .own (s.heap.objs.size + 1)) (h' := s.heap.push PySem.W.emptyDict) (t' := s.toks) (fun b u q => Heap.get?_push_of_some _ q) (Nat.le_refl _) ⟨_, e1⟩
  refine I1.laid (a := s.heap.objs.size + 1) (o := .ins C s.heap.objs.size []) (t' := s.toks) (fun b u q => Heap.get?_push_of_some _ q) (Nat.le_of_eq (Heap.size_push _ _)) ?_
  have ne : s.heap.objs.size ≠ s.heap.objs.size + 1 := Nat.ne_of_lt (Nat.lt_succ_self _)
  refine ⟨by rw [upd_ne ne, upd_same], Nat.zero_le _, ne, e2, fun _ => none, (Heap.Ns1.of_empty e3).at fun o q => Heap.get?_push_of_some _ q, fun _ => True.intro, fun y hy => absurd rfl hy⟩

/-- e.f where nothing but the object is asked: through attributeBase (super) and the last hold -/
theorem attr_of {prog : Program} {w : World} {env : Env} {e : Expr} {f : Str} {pos : Pos} {s : Shared} {Q : Value → Shared → Prop} (hb : attributeBase e f env (eval e env) = eval e env)
    (h : wpAny (model prog w) A (eval e env) (fun o s₁ => wpAny (model prog w) A (getAttr o f true) Q E s₁) E s) : wpAny (model prog w) A (eval (.Attribute e f pos) env) Q E s :=
  Attribute_any_ h (by rw [arm_eval_Attribute, hb])
end

/-! ### readings and rules -/
/-- e.f, an attribute of the instance -/
def tFld (K : PySem.W.Frag) (ta : TE) (f : Str) : TE := fun σ H Q => ta σ H fun x H1 => ∃ a C dx fs v, x = .ref a ∧ H1 a = some (.ins C dx fs) ∧ Cls K C ∧ NoAttr K C f ∧ fs.lookup f = some v ∧ Q v H1
/-- e.f = value -/
def sFld (K : PySem.W.Frag) (ta tv : TE) (f : Str) : TS := fun D σ H => tv σ H fun y H1 => ta σ H1 fun x H2 => ∃ a C dx fs, x = .ref a ∧ H2 a = some (.ins C dx fs) ∧ Cls K C ∧ NoAttr K C f ∧ fs.length < 1000 ∧
  D.nx σ (upd H2 a (.ins C dx (putF f y fs)))
/-- an augmented operator on two values -/
def InOp (X : Cx) (op : Operator) (rd : V → V → Hp → VK → Prop) : Prop :=
  ∀ (pins : List (Addr × Obj)) (s : Shared) (σ : St) (H : Hp) (x y : V) (u v : Value) (Q : VK), Inv X pins σ H s → RelV x u → RelV y v → rd x y H Q → wpAny (model X.prog X.w) X.A (inplaceOp op u v) (EP X pins σ Q) X.xe s
/-- e.f op= value -/
def sFldAug (K : PySem.W.Frag) (ta tv : TE) (rd : V → V → Hp → VK → Prop) (f : Str) : TS := fun D σ H => ta σ H fun x H1 => ∃ a C dx fs v, x = .ref a ∧ H1 a = some (.ins C dx fs) ∧ Cls K C ∧ NoAttr K C f ∧ fs.lookup f = some v ∧
  tv σ H1 fun y H2 => rd v y H2 fun z H3 => ∃ dx' fs', H3 a = some (.ins C dx' fs') ∧ fs'.length < 1000 ∧ D.nx σ (upd H3 a (.ins C dx' (putF f z fs')))

section
variable {X : Cx} {o e value : Expr} {f : Str} {pos pos' tpos : Pos} {ta tv : TE}
theorem pe_fld (he : PE X e ta) (hb : attributeBase e f X.env (eval e X.env) = eval e X.env) : PE X (.Attribute e f pos) (tFld X.K ta f) := by
  intro pins s σ H Q I h
  refine attr_of hb (thn (he pins s σ H _ I h) fun u s1 ⟨x, H1, I1, rx, a, C, dx, fs, v, ex, ea, c, n, l, q⟩ => ?_)
  subst ex
  obtain rfl : u = Value.ref a := rx
  exact getattr_ok I1 ea c n l fun u' s2 I2 ru => ⟨v, H1, I2, ru, q⟩
theorem ps_fld (ha : PE X o ta) (hv : PE X value tv) (hs : swapsWith value (some (.Attribute o f pos')) pos.line X.env = pure false) : PS X (.Assign [.Attribute o f pos'] value pos) (sFld X.K ta tv f) := by
  intro pins s σ H D I h
  refine plainObj_wpAny_Assign_Attribute (thn (hv pins s σ H _ I h) fun u s1 ⟨y, H1, I1, ry, q⟩ => thn (ha pins s1 σ H1 _ I1 q) fun ov s2 ⟨x, H2, I2, rx, a, C, dx, fs, ex, ea, c, n, l, q2⟩ => ?_) hs
  subst ex
  obtain rfl : ov = Value.ref a := rx
  exact setattr_ok I2 ea c n l ry fun s3 I3 => ⟨σ, _, I3, q2⟩
theorem ps_fldaug {op : Operator} {rd : V → V → Hp → VK → Prop} (ha : PE X o ta) (hv : PE X value tv) (hop : InOp X op rd) : PS X (.AugAssign (.Attribute o f tpos) op value pos) (sFldAug X.K ta tv rd f) := by
  intro pins s σ H D I h
  refine wpAny_AugAssign_AttributeAny (thn (ha pins s σ H _ I h) fun ov s1 ⟨x, H1, I1, rx, a, C, dx, fs, v, ex, ea, c, n, l, q⟩ => ?_)
  subst ex
  obtain rfl : ov = Value.ref a := rx
  refine getattr_ok I1 ea c n l fun u s2 I2 ru => thn (hv pins s2 σ H1 _ I2 q) fun w3 s3 ⟨y, H2, I3, ry, q3⟩ => thn (hop pins s3 σ H2 v y u w3 _ I3 ru ry q3) fun w4 s4 ⟨z, H3, I4, rz, dx', fs', ea', l', q4⟩ => ?_
  exact setattr_ok I4 ea' c n l' rz fun s5 I5 => ⟨σ, _, I5, q4⟩
def rAdd : V → V → Hp → VK → Prop := fun x y H Q => ∃ i j, x = .int i ∧ y = .int j ∧ Q (.int (i + j)) H
theorem in_add : InOp X .Add rAdd := by
  rintro pins s σ H x y u v Q I rx ry ⟨i, j, rfl, rfl, q⟩
  obtain ⟨t, rfl⟩ := (show ∃ t, u = Value.int i t from rx)
  obtain ⟨t', rfl⟩ := (show ∃ t', v = Value.int j t' from ry)
  exact PyProof.Rows.iadd_int ⟨.int (i + j), H, I.tok _, ⟨_, rfl⟩, q⟩

end

/-! ### isinstance -/
section
variable {X : Cx} {pins : List (Addr × Obj)} {σ : St} {H : Hp} {s : Shared} {A : Around} {E : Value → Shared → Prop} {Q : Value → Shared → Prop} {c : Value} {b : Bool}
end
end L2

namespace L2
open PySem PySem.Spec PyProof.Rows

/-! ### room -/
structure Room (k : Nat) (A : Around) : Prop where
  hd : A.handled = none
  dp : A.depth + 3 * k + 5 < recursionLimit
  un : A.units + 16 * k + 200 < cLine
theorem Room.mono {j k : Nat} {A : Around} (r : Room k A) (h : j ≤ k) : Room j A := ⟨r.hd, by have := r.dp; omega, by have := r.un; omega⟩
theorem Room.deeper {k : Nat} {A : Around} (r : Room (k + 1) A) (env : Env) : Room k (A.deeper env) :=
  ⟨r.hd, by have := r.dp; show A.depth + 1 + 3 * k + 5 < _; omega, by have := r.un; show A.units + 3 + 16 * k + 200 < _; omega⟩
theorem make_depth {A : Around} {C : Addr} {us : List Value} {kw : List (Str × Value)} : (A.under (.builtin "type.__call__" ⟨.ref C :: us, kw⟩)).depth = A.depth + 1 := by
  first | rfl | simp [Around.under, Code.weight, Code.isCreation, Code.isGuard, Code.isCaller, Code.frames, Code.isFrame, guardIds]
theorem make_units {A : Around} {C : Addr} {us : List Value} {kw : List (Str × Value)} : (A.under (.builtin "type.__call__" ⟨.ref C :: us, kw⟩)).units = A.units + 1 := by
  first | rfl | simp [Around.under, Code.cUnits, Code.frames, Code.isFrame]
theorem Room.make {k : Nat} {A : Around} (r : Room (k + 1) A) (C : Addr) (us : List Value) (kw : List (Str × Value)) : Room k (A.under (.builtin "type.__call__" ⟨.ref C :: us, kw⟩)) :=
  ⟨r.hd, by have := r.dp; rw [make_depth]; omega, by have := r.un; rw [make_units]; omega⟩
theorem Room.depth {k : Nat} {A : Around} (r : Room k A) : A.depth < recursionLimit := by have := r.dp; omega
theorem Room.units {k : Nat} {A : Around} (r : Room k A) : A.units + 64 < cLine := by have := r.un; omega

/-! ### argument lists and displays -/
def tNil : TA := fun _ H Q => Q [] H
def tCons (ta : TE) (tr : TA) : TA := fun σ H Q => ta σ H fun x H1 => tr σ H1 fun xs H2 => Q (x :: xs) H2
section
variable {X : Cx} {e : Expr} {es : List Expr} {te : TE} {t : TA} {pos : Pos}
theorem pa_nil : PA X [] tNil := fun _ _ _ _ H Q I h => Calls.spliced_nil ⟨[], H, I, .nil, h⟩
theorem pa_cons (ha : PE X e te) (hr : PA X es t) (hs : starEach (e :: es) X.env = (false, eval e X.env) :: starEach es X.env := by rfl) : PA X (e :: es) (tCons te t) := by
  intro pos pins s σ H Q I h
  rw [hs]
  show wpAny _ _ (spliced ((false, eval e X.env) :: backTo pos (starEach es X.env))) _ _ s
  refine Calls.spliced_cons (thn (ha pins s σ H _ I h) fun u s1 ⟨x, H1, I1, r1, q1⟩ => ?_)
  exact thn (hr pos pins s1 σ H1 _ I1 q1) fun us s2 ⟨xs, H2, I2, r2, q2⟩ => ⟨x :: xs, H2, I2, .cons r1 r2, q2⟩

/-- a tuple, a list of written items -/
def tTup (t : TA) : TE := fun σ H Q => t σ H fun xs H1 => xs.length ≤ sizeLine ∧ ∀ p, H1 p = none → Q (.ref p) (upd H1 p (.tup xs))
def tLst (t : TA) : TE := fun σ H Q => t σ H fun xs H1 => xs.length ≤ sizeLine ∧ ∀ p, H1 p = none → Q (.ref p) (upd H1 p (.lst xs))
theorem pe_tup {x1} (h : PA X es t) : PE X (.Tuple es x1 pos) (tTup t) := by
  intro pins s σ H Q I hq
  refine wpAny_Tuple_spliced (thn (h pos pins s σ H _ I hq) fun us s1 ⟨xs, H1, I1, r, z, q⟩ => ⟨by rw [← r.length]; exact z, ?_⟩)
  have hf : H1 s1.heap.objs.size = none := I1.hok.fresh (Nat.le_refl _)
  refine ⟨.ref s1.heap.objs.size, upd H1 s1.heap.objs.size (.tup xs), I1.laid (t' := s1.toks) (fun b u e => Heap.get?_push_of_some _ e) (Nat.le_refl _) ?_, rfl, q _ hf⟩
  exact ⟨z, us, r, ⟨_, Heap.get?_push_size _ rfl, rfl, _, rfl⟩⟩
theorem pe_lst (h : PA X es t) : PE X (.List es pos) (tLst t) := by
  intro pins s σ H Q I hq
  refine wpAny_List_spliced (thn (h pos pins s σ H _ I hq) fun us s1 ⟨xs, H1, I1, r, z, q⟩ => ⟨by rw [← r.length]; exact z, ?_⟩)
  have hf : H1 s1.heap.objs.size = none := I1.hok.fresh (Nat.le_refl _)
  refine ⟨.ref s1.heap.objs.size, upd H1 s1.heap.objs.size (.lst xs), I1.laid (t' := s1.toks) (fun b u e => Heap.get?_push_of_some _ e) (Nat.le_refl _) ?_, rfl, q _ hf⟩
  exact ⟨z, us, 0, r, Heap.get?_push_size _ rfl⟩
end

/-! ### what a def promises -/
/-- a def's promise: the bound arguments in the parameters' order, the heap, the wanted end, the wanted exception -/
abbrev Sp := List V → Hp → VK → XK → Prop
/-- how an exception lies behind a call (file 08 gives it): the callers' frames, abstract heap and state ahead of the call, the wish, the exception, the state -/
abbrev CXT := List Env → Hp → Shared → XK → Value → Shared → Prop

/-- the state at a call -/
structure Env0 (P : Program) (w : World) (K : PySem.W.Frag) (mg : Str → Option Value) (base : Heap) (A : Around) (outer : List Env) (s : Shared) (H : Hp) : Prop where
  frames : A.frames = some outer
  mod : Mod K mg base
  bs : ∀ b o, base.get? b = some o → s.heap.get? b = some o ∧ H b = none
  bsz : base.objs.size ≤ s.heap.objs.size
  funs : s.heap.FunFrames base outer
  frf : ∀ b ∈ frs outer, H b = none
  hok : HOk P w H s.heap
  bare : AllBare s.gens
/-- a call's end -/
def CE (outer : List Env) (P : Program) (w : World) (H : Hp) (s : Shared) (Q : VK) (u : Value) (s' : Shared) : Prop :=
  ∃ v H', s'.os = s.os ∧ AllBare s'.gens ∧ Un (frs outer) [] H H' s.heap s'.heap ∧ HOk P w H' s'.heap ∧ RelV v u ∧ Q v H'
def CR (CX : CXT) (outer : List Env) (P : Program) (w : World) (H : Hp) (s : Shared) (Q : VK) (E : XK) (r : Result) (s' : Shared) : Prop :=
  match r with
  | .ok (.ret u) => CE outer P w H s Q u s'
  | .ok _ => False
  | .error e => CX outer H s E e s'
structure FnOk (P : Program) (w : World) (K : PySem.W.Frag) (mg : Str → Option Value) (base : Heap) (CX : CXT) (k : Nat) (f : Addr) (fd : FuncData) (ps : List Str) (sp : Sp) : Prop where
  len : ∀ vs H Q E, sp vs H Q E → vs.length = ps.length
  run : ∀ (A : Around) (outer : List Env) (s : Shared) (H : Hp) (args : Args) (us : List Value) (vs : List V) (Q : VK) (E : XK), Room k A → Env0 P w K mg base A outer s H → BindsTo s fd args (ps.zip us) → Vals vs us → sp vs H Q E →
    codeAny (model P w) A (.call (.ref f) args) (CR CX outer P w H s Q E) s

theorem Env0.make {P : Program} {w : World} {K : PySem.W.Frag} {mg : Str → Option Value} {base : Heap} {A : Around} {outer : List Env} {s : Shared} {H : Hp} (e : Env0 P w K mg base A outer s H) (C : Addr) (us : List Value) (kw : List (Str × Value)) :
    Env0 P w K mg base (A.under (.builtin "type.__call__" ⟨.ref C :: us, kw⟩)) outer s H := ⟨by first | exact e.frames | (simpa [Around.under, Code.envs, Code.isFrame, pushEnvs] using e.frames), e.mod, e.bs, e.bsz, e.funs, e.frf, e.hok, e.bare⟩

section
variable {X : Cx} {pins : List (Addr × Obj)} {σ : St} {H : Hp} {s s' : Shared}
/-- from a body: what a callee wants -/
theorem Inv.env0 (I : Inv X pins σ H s) : Env0 X.prog X.w X.K X.mg X.base X.A X.stack s H :=
  ⟨I.ok.frames, I.ok.mod, I.bs, Nat.le_trans I.ok.bsz I.sz, I.stack, I.stkFree, I.hok, I.bare⟩
/-- behind a call -/
theorem Inv.after {Q : VK} {u : Value} (I : Inv X pins σ H s) (h : CE X.stack X.prog X.w H s Q u s') : EP X pins σ Q u s' := by
  obtain ⟨v, H', os, bare, un, hok, r, q⟩ := h
  obtain ⟨hh, g, d, t, os'⟩ := s'
  obtain rfl : os' = s.os := os
  exact ⟨v, H', I.call (h' := hh) (g' := g) (d' := d) (t' := t) (ch := []) un hok bare (fun b z => absurd z (by simp)), r, q⟩
end

/-! ### calls -/
/-- f(..): the written arguments, then the defaults dvs; E: what is wanted of an exception -/
def tCall (sp : Sp) (dvs : List V) (E : XK) (t : TA) : TE := fun σ H Q => t σ H fun vs H1 => sp (vs ++ dvs) H1 Q E
/-- o.m(..) of an instance of the class at C -/
def tMeth (C : Addr) (m : Str) (sp : Sp) (dvs : List V) (E : XK) (ta : TE) (t : TA) : TE := fun σ H Q => ta σ H fun x H1 => ∃ a dx fs, x = .ref a ∧ H1 a = some (.ins C dx fs) ∧ fs.lookup m = none ∧
  t σ H1 fun vs H2 => sp (x :: (vs ++ dvs)) H2 Q E
/-- C(..): a new instance and its dict, then __init__ -/
def tMake (C : Addr) (sp : Sp) (dvs : List V) (E : XK) (t : TA) : TE := fun σ H Q => t σ H fun vs H1 => ∀ x dx, H1 x = none → H1 dx = none → dx ≠ x →
  sp (.ref x :: (vs ++ dvs)) (upd (upd H1 dx (.own x)) x (.ins C dx [])) (fun v H2 => v = .non ∧ Q (.ref x) H2) E

/-- how the parameters are bound: us the positional arguments, kw the keywords' values by name, ds the defaults that fill up -/
def Binds (K : PySem.W.Frag) (fd : FuncData) (ps : List Str) (ds : List Value) : Prop :=
  ∀ (s : Shared) (us : List Value), K.In s.heap → (us ++ ds).length = ps.length → BindsTo s fd ⟨us, []⟩ (ps.zip (us ++ ds))
/-- every parameter is given -/
theorem Binds.all {K : PySem.W.Frag} {fd : FuncData} {ps : List Str} (h : ∀ us : List Value, us.length = ps.length → bindArgs fd ⟨us, []⟩ = pure (ps.zip us)) : Binds K fd ps [] := fun s us _ hl => by
  rw [List.append_nil] at hl ⊢
  exact .of_eq (h us hl)

/-- an exception of a callee reaches what this body wants of exceptions -/
def Passes (CX : CXT) (X : Cx) (E : XK) : Prop := ∀ (pins : List (Addr × Obj)) (σ : St) (H : Hp) (s : Shared) (e : Value) (s' : Shared), Inv X pins σ H s → CX X.stack H s E e s' → X.xe e s'

section
variable {X : Cx} {CX : CXT} {k : Nat} {f C : Addr} {fd : FuncData} {ps : List Str} {sp : Sp} {dvs : List V} {ds : List Value} {E : XK} {x m : Str} {p pos apos : Pos} {e o : Expr} {es : List Expr} {ta : TE} {t : TA}

/-- the callee runs -/
theorem run_fn {pins : List (Addr × Obj)} {σ : St} {H : Hp} {s : Shared} {Q : VK} {us : List Value} {vs : List V} (F : FnOk X.prog X.w X.K X.mg X.base CX k f fd ps sp) (hr : Room k X.A) (hb : Binds X.K fd ps ds) (hd : Vals dvs ds) (hx : Passes CX X E)
    (I : Inv X pins σ H s) (r : Vals vs us) (h : sp (vs ++ dvs) H Q E) : wpAny (model X.prog X.w) X.A (call (.ref f) us) (EP X pins σ Q) X.xe s := by
  have r2 : Vals (vs ++ dvs) (us ++ ds) := r.append hd
  have hl : (us ++ ds).length = ps.length := by rw [← r2.length]; exact F.len _ _ _ _ h
  refine wpAny_call (codeAny_mono (F.run X.A X.stack s H ⟨us, []⟩ (us ++ ds) (vs ++ dvs) Q E hr I.env0 (hb s us I.kIn hl) r2 h) fun r s' hq => ?_)
  cases r with
  | error e => exact hx pins σ H s e s' I hq
  | ok fl =>
    cases fl with
    | ret u => exact I.after hq
    | next => exact False.elim hq
    | brk => exact False.elim hq
    | cont => exact False.elim hq

theorem pe_call (F : FnOk X.prog X.w X.K X.mg X.base CX k f fd ps sp) (hr : Room k X.A) (hg : Gl X x) (hm : X.mg x = some (.ref f)) (hk : PySem.W.keepIn X.K (.ref f) = true) (hb : Binds X.K fd ps ds) (hd : Vals dvs ds) (hx : Passes CX X E)
    (ha : PA X (e :: es) t) (hdb : (x == ("__debug__" : Str)) = false := by decide) (he : starEach (e :: es) X.env = (false, eval e X.env) :: starEach es X.env := by rfl) (hpl : (backTo pos (starEach es X.env)).any (·.1) = false := by rfl) :
    PE X (.Call (.Name x p) (e :: es) [] pos) (tCall sp dvs E t) := by
  intro pins s σ H Q I h
  refine wpAny_Call_Name_kw (ld_glob I hg hm ?_ hdb)
  refine PySem.W.callWith_K (h₀ := X.base) I.ok.mod.kin hk (thn (ha pos pins s σ H _ I h) fun us s1 ⟨vs, H1, I1, r, q⟩ => ⟨I1.kIn, ?_⟩) he hpl
  exact run_fn F hr hb hd hx I1 r q

/-- o.m(e, ..) -/
theorem pe_meth {pl : Sem Bool} (he : PE X o ta) (c : Cls X.K C) (hm : Meth X.K C m f) (F : FnOk X.prog X.w X.K X.mg X.base CX k f fd ps sp) (hr : Room k X.A) (hb : Binds X.K fd ps ds) (hd : Vals dvs ds) (hx : Passes CX X E) (ha : PA X (e :: es) t)
    (hst : starEach (e :: es) X.env = (false, eval e X.env) :: starEach es X.env := by rfl) (hpl : (backTo pos (starEach es X.env)).any (·.1) = false := by rfl)
    (ht : eval (.Call (.Attribute o m apos) (e :: es) [] pos) X.env = (do
      let ov ← eval o X.env
      standAt apos.atName
      let (f, first) ← holding [ov] (getMethod ov m pl)
      callWith pos f first (backTo pos (starEach (e :: es) X.env)) (backToKw pos (keywordEach [] X.env))) := by rfl) :
    PE X (.Call (.Attribute o m apos) (e :: es) [] pos) (tMeth C m sp dvs E ta t) := by
  intro pins s σ H Q I h
  refine PySem.W.methodCall_KW (pl := pl) (thn (he pins s σ H _ I h) fun u s1 ⟨x, H1, I1, rx, a, dx, fs, ex, ea, l, q⟩ => ?_) ht
  subst ex
  obtain rfl : u = Value.ref a := rx
  refine getmeth_ok I1 ea c hm l ?_
  refine PySem.W.callWith_K (first := [.ref a]) (h₀ := X.base) I.ok.mod.kin hm.kp (thn (ha pos pins s1 σ H1 _ I1 q) fun us s2 ⟨vs, H2, I2, r, q2⟩ => ⟨I2.kIn, ?_⟩) hst hpl
  exact run_fn (us := .ref a :: us) (vs := .ref a :: vs) F hr hb hd hx I2 (.cons rfl r) q2
/-- o.m() -/
theorem pe_meth0 {pl : Sem Bool} (he : PE X o ta) (c : Cls X.K C) (hm : Meth X.K C m f) (F : FnOk X.prog X.w X.K X.mg X.base CX k f fd ps sp) (hr : Room k X.A) (hb : Binds X.K fd ps ds) (hd : Vals dvs ds) (hx : Passes CX X E)
    (ht : eval (.Call (.Attribute o m apos) [] [] pos) X.env = (do
      let ov ← eval o X.env
      standAt apos.atName
      let (f, first) ← holding [ov] (getMethod ov m pl)
      callWith pos f first (backTo pos (starEach [] X.env)) (backToKw pos (keywordEach [] X.env))) := by rfl) :
    PE X (.Call (.Attribute o m apos) [] [] pos) (tMeth C m sp dvs E ta tNil) := by
  intro pins s σ H Q I h
  refine PySem.W.methodCall_KW (pl := pl) (thn (he pins s σ H _ I h) fun u s1 ⟨x, H1, I1, rx, a, dx, fs, ex, ea, l, q⟩ => ?_) ht
  subst ex
  obtain rfl : u = Value.ref a := rx
  refine getmeth_ok I1 ea c hm l ?_
  exact PySem.W.callWith_K0 (first := [.ref a]) I1.kIn hm.kp (run_fn (us := [.ref a]) (vs := [.ref a]) F hr hb hd hx I1 (.cons rfl .nil) q)

/-- what a class must have to be made -/
structure Mk (K : PySem.W.Frag) (C f : Addr) : Prop where
  makes : PySem.W.makesIn K C = true
  init : PySem.W.findIn K (.ref C) "__init__" = some (some (.ref f))
  fn : PySem.W.isFn K (.ref f) = true
  kp : PySem.W.keepIn K (.ref C) = true

theorem run_make {pins : List (Addr × Obj)} {σ : St} {H : Hp} {s : Shared} {Q : VK} {us : List Value} {vs : List V} (M : Mk X.K C f) (F : FnOk X.prog X.w X.K X.mg X.base CX k f fd ps sp) (hr : Room (k + 1) X.A) (hb : Binds X.K fd ps ds) (hd : Vals dvs ds)
    (hx : Passes CX X E) (I : Inv X pins σ H s) (r : Vals vs us)
    (h : ∀ x dx, H x = none → H dx = none → dx ≠ x → sp (.ref x :: (vs ++ dvs)) (upd (upd H dx (.own x)) x (.ins C dx [])) (fun v H2 => v = .non ∧ Q (.ref x) H2) E) :
    wpAny (model X.prog X.w) X.A (call (.ref C) us) (EP X pins σ Q) X.xe s := by
  have hq := h (s.heap.objs.size + 1) s.heap.objs.size (I.hok.fresh (Nat.le_succ _)) (I.hok.fresh (Nat.le_refl _)) (Nat.ne_of_lt (Nat.lt_succ_self _))
  have I2 := Inv.made (C := C) I
  have r2 : Vals (V.ref (s.heap.objs.size + 1) :: (vs ++ dvs)) (Value.ref (s.heap.objs.size + 1) :: (us ++ ds)) := .cons rfl (r.append hd)
  have hl : (Value.ref (s.heap.objs.size + 1) :: us ++ ds).length = ps.length := by
    have e := r2.length
    rw [F.len _ _ _ _ hq] at e
    exact e.symm
  refine wpAny_call (make_map (f := f) I.kIn M.makes M.init (beq_iff_eq.mp M.fn) (codeAny_mono (F.run _ X.stack _ _ ⟨Value.ref (s.heap.objs.size + 1) :: us, []⟩ (Value.ref (s.heap.objs.size + 1) :: (us ++ ds)) _ _ E (hr.make C us [])
    (I2.env0.make C us []) (hb _ (Value.ref (s.heap.objs.size + 1) :: us) I2.kIn hl) r2 hq) fun r s' hq' => ?_))
  cases r with
  | error e => exact hx pins σ _ _ e s' I2 hq'
  | ok fl =>
    cases fl with
    | ret u =>
      obtain ⟨v, H', I3, rv, ev, q3⟩ := I2.after hq'
      subst ev
      exact ⟨rv, ⟨V.ref (s.heap.objs.size + 1), H', I3, rfl, q3⟩⟩
    | next => exact False.elim hq'
    | brk => exact False.elim hq'
    | cont => exact False.elim hq'
theorem pe_make (M : Mk X.K C f) (F : FnOk X.prog X.w X.K X.mg X.base CX k f fd ps sp) (hr : Room (k + 1) X.A) (hg : Gl X x) (hm : X.mg x = some (.ref C)) (hb : Binds X.K fd ps ds) (hd : Vals dvs ds) (hx : Passes CX X E)
    (ha : PA X (e :: es) t) (hdb : (x == ("__debug__" : Str)) = false := by decide) (he : starEach (e :: es) X.env = (false, eval e X.env) :: starEach es X.env := by rfl) (hpl : (backTo pos (starEach es X.env)).any (·.1) = false := by rfl) :
    PE X (.Call (.Name x p) (e :: es) [] pos) (tMake C sp dvs E t) := by
  intro pins s σ H Q I h
  refine wpAny_Call_Name_kw (ld_glob I hg hm ?_ hdb)
  refine PySem.W.callWith_K (h₀ := X.base) I.ok.mod.kin M.kp (thn (ha pos pins s σ H _ I h) fun us s1 ⟨vs, H1, I1, r, q⟩ => ⟨I1.kIn, ?_⟩) he hpl
  exact run_make M F hr hb hd hx I1 r q
end

/-! ### keywords -/
section
variable {X : Cx} {CX : CXT} {k : Nat} {f C : Addr} {fd : FuncData} {ps ks : List Str} {sp : Sp} {E : XK} {x m : Str} {p pos apos kpos : Pos} {e o : Expr} {es : List Expr} {kws : List Keyword} {te ta : TE} {t tk : TA} {nm : Option Str}

variable {g : List Value → List Value → List Value} {gV : List V → List V → List V}
end

/-! ### a def's body keeps its promise -/
/-- names: the parameters first -/
structure FnScope (N P : List Str) (sc : Scope) : Prop where
  kind : sc.kind = .function
  co : sc.isCoroutine = false
  gen : sc.isGenerator = false
  nd : N.Nodup
  pre : N.take P.length = P
  par : ∀ x ∈ P, sc.names.lookup x = some .local ∨ sc.names.lookup x = some .cell
  nofree : ∀ y ∈ sc.names, y.2 ≠ .free

theorem bindL_out {kindOf : Str → Option NameKind} {x : Str} : ∀ {binds : List (Str × Value)} {m : Str → Option Value}, (∀ v, (x, v) ∉ binds) → bindL kindOf binds m x = m x
  | [], _, _ => rfl
  | (n, v) :: r, m, h => by
    unfold bindL
    rw [bindL_out fun w hw => h w (List.mem_cons_of_mem _ hw)]
    split
    · have : x ≠ n := by rintro rfl; exact h v List.mem_cons_self
      simp [this]
    · rfl
theorem bindC_out {kindOf : Str → Option NameKind} {x : Str} : ∀ {binds : List (Str × Value)} {m : Str → Option Value}, (∀ v, (x, v) ∉ binds) → bindC kindOf binds m x = m x
  | [], _, _ => rfl
  | (n, v) :: r, m, h => by
    unfold bindC
    rw [bindC_out fun w hw => h w (List.mem_cons_of_mem _ hw)]
    split
    · rfl
    · have : x ≠ n := by rintro rfl; exact h v List.mem_cons_self
      simp [this]
theorem bindL_get {kindOf : Str → Option NameKind} {x : Str} {v : Value} : ∀ {P : List Str} {vs : List Value} {i : Nat} {m : Str → Option Value}, P.Nodup → P[i]? = some x → vs[i]? = some v → kindOf x = some .local →
    bindL kindOf (P.zip vs) m x = some v
  | [], _, _, _, _, h, _, _ => by simp at h
  | _ :: _, [], _, _, _, _, h, _ => by simp at h
  | p :: P, w :: vs, 0, m, nd, h1, h2, hk => by
    simp at h1 h2; subst h1; subst h2
    show bindL kindOf ((p, w) :: P.zip vs) m p = _
    unfold bindL
    rw [bindL_out fun v hv => (List.nodup_cons.mp nd).1 (List.of_mem_zip hv).1, if_pos hk]
    simp
  | p :: P, w :: vs, i + 1, m, nd, h1, h2, hk => by
    show bindL kindOf ((p, w) :: P.zip vs) m x = _
    unfold bindL
    exact bindL_get (i := i) (List.nodup_cons.mp nd).2 (by simpa using h1) (by simpa using h2) hk
theorem bindC_get {kindOf : Str → Option NameKind} {x : Str} {v : Value} : ∀ {P : List Str} {vs : List Value} {i : Nat} {m : Str → Option Value}, P.Nodup → P[i]? = some x → vs[i]? = some v → kindOf x ≠ some .local →
    bindC kindOf (P.zip vs) m x = some v
  | [], _, _, _, _, h, _, _ => by simp at h
  | _ :: _, [], _, _, _, _, h, _ => by simp at h
  | p :: P, w :: vs, 0, m, nd, h1, h2, hk => by
    simp at h1 h2; subst h1; subst h2
    show bindC kindOf ((p, w) :: P.zip vs) m p = _
    unfold bindC
    rw [bindC_out fun v hv => (List.nodup_cons.mp nd).1 (List.of_mem_zip hv).1, if_neg hk]
    simp
  | p :: P, w :: vs, i + 1, m, nd, h1, h2, hk => by
    show bindC kindOf ((p, w) :: P.zip vs) m x = _
    unfold bindC
    exact bindC_get (i := i) (List.nodup_cons.mp nd).2 (by simpa using h1) (by simpa using h2) hk

/-- the names' values at the entry -/
def start (N : List Str) (vs : List V) : St := vs.map some ++ List.replicate (N.length - vs.length) none

/-- the context of a def's body, at its entry; an exception leaves the frame, then lies as CX says -/
def cxOf (CX : CXT) (P : Program) (w : World) (K : PySem.W.Frag) (mg : Str → Option Value) (base : Heap) (N : List Str) (qual : Str) (scope : Scope) (f : Addr) (cd : Value) (A : Around) (outer : List Env) (s : Shared) (H : Hp) (E : XK) : Cx where
  prog := P
  w := w
  K := K
  mg := mg
  base := base
  A := A.deeper (envOfC qual scope s.heap.objs.size f cd)
  N := N
  s_0 := s
  H_0 := H
  env := envOfC qual scope s.heap.objs.size f cd
  outer := outer
  stack := envOfC qual scope s.heap.objs.size f cd :: outer
  ex := []
  calm := true
  fn := fun _ => true
  pn := []
  xe := fun e s' => wpAny (model P w) (A.deeper (envOfC qual scope s.heap.objs.size f cd)) (leaving (envOfC qual scope s.heap.objs.size f cd) e) (fun _ s'' => CX outer H s E e s'') (fun e' s'' => CX outer H s E e' s'') s'

theorem cell_has {sc : Scope} {n : Nat} {x : Str} (h : sc.names.lookup x = some .cell) : ∃ c, (cellsFrom n sc.names []).lookup x = some c := by
  have q := PySem.W.cellsFrom_some sc.names n [] (.inl h)
  exact Option.isSome_iff_exists.mp q

theorem inv_start {CX : CXT} {P : Program} {w : World} {K : PySem.W.Frag} {mg : Str → Option Value} {base : Heap} {N ps : List Str} {qual : Str} {scope : Scope} {f : Addr} {cd : Value} {A : Around} {outer : List Env} {s s1 : Shared} {H : Hp} {E : XK} {us : List Value} {vs : List V}
    (S : FnScope N ps scope) (hd : A.handled = none) (e0 : Env0 P w K mg base A outer s H) (hl : vs.length = ps.length) (r : Vals vs us)
    (x : InCallC s s.heap.objs.size (bindL (envOfC qual scope s.heap.objs.size f cd).kindOf (ps.zip us) fun _ => none) (cellsFrom (s.heap.objs.size + 1) scope.names []) (bindC (envOfC qual scope s.heap.objs.size f cd).kindOf (ps.zip us) fun _ => none) s1) :
    Inv (cxOf CX P w K mg base N qual scope f cd A outer s H E) [] (start N vs) H s1 := by
  have hpl : ps.length ≤ N.length := by have := congrArg List.length S.pre; rw [List.length_take] at this; omega
  obtain ⟨h1, tk, rfl, hk⟩ := x.done
  have noA : ∀ b : Addr, b ∉ (cxOf CX P w K mg base N qual scope f cd A outer s H E).ex := fun b z => absurd (show b ∈ ([] : List Addr) from z) (by simp)
  refine ⟨⟨e0.mod, S.kind, rfl, rfl, Nat.le_refl _, fun y z c h1 h2 => ?_, fun y hy => ?_, fun y c _ h => ?_, fun _ => hd, Around.frames_deeper e0.frames, .inr ⟨rfl, rfl⟩, fun b z => absurd z (noA b), e0.bs, e0.bsz, fun b _ _ => noA b, fun b z => absurd z (noA b), e0.funs, e0.frf⟩,
    rfl, e0.bare, Un.kept hk, ⟨_, x.toInCall.ns, fun i y v h1 h2 h3 => ?_⟩, fun y c h => ⟨_, x.cell y c h⟩, e0.hok.fresh (Nat.le_refl _), fun y c h => ?_, fun p hp => absurd (show p ∈ ([] : List (Addr × Obj)) from hp) (by simp), e0.hok.kept hk, ?_⟩
  · exact name_of_addr x.apart (PySem.mem_of_lookup h1) (PySem.mem_of_lookup h2)
  · have hy : scope.names.lookup y = some .cell ∨ scope.names.lookup y = some .free := hy
    rcases hy with hy | hy
    · exact cell_has hy
    · exact absurd rfl (S.nofree _ (PySem.mem_of_lookup hy))
  · exact Nat.le_of_lt (x.above y c (PySem.mem_of_lookup h))
  · have hi : i < vs.length := by
      unfold start at h2
      by_cases hi : i < vs.length
      · exact hi
      · rw [List.getElem?_append_right (by simpa using hi)] at h2
        rw [List.getElem?_replicate] at h2
        split at h2 <;> cases h2
    have ha : vs[i]? = some v := by
      unfold start at h2
      rw [List.getElem?_append_left (by simpa using hi), List.getElem?_map] at h2
      cases e : vs[i]? with
      | none => rw [e] at h2; cases h2
      | some a => rw [e] at h2; cases h2; rfl
    obtain ⟨u, hu, rv⟩ := r.get ha
    have hp : ps[i]? = some y := by
      rw [← S.pre, List.getElem?_take_of_lt (by omega)]; exact h1
    have ndP : ps.Nodup := by rw [← S.pre]; exact S.nd.sublist (List.take_sublist _ _)
    refine ⟨u, rv, ?_⟩
    rcases S.par y (List.mem_of_getElem? hp) with k | k
    · exact .inl ⟨k, bindL_get ndP hp hu k⟩
    · obtain ⟨c, e⟩ := cell_has (n := s.heap.objs.size + 1) k
      refine .inr ⟨.inl k, c, e, ?_⟩
      have q := x.cell y c e
      rw [bindC_get ndP hp hu (by show scope.names.lookup y ≠ _; rw [k]; decide)] at q
      exact q
  · exact e0.hok.fresh (Nat.le_of_lt (x.above y c (PySem.mem_of_lookup h)))
  · unfold start
    show _ = N.length
    rw [List.length_append, List.length_map, List.length_replicate]
    omega

/-- THE RULE: a def (or a method) of the text, by its body. The body's reading t is chosen for each entry; it is run at the parameters' values -/
theorem fn_of {CX : CXT} {P : Program} {w : World} {K : PySem.W.Frag} {mg : Str → Option Value} {base : Heap} {k : Nat} {f : Addr} {name qual : Str} {params : Arguments} {body : List Stmt} {scope : Scope} {dV kV doc pm cdv ct oc : Value} {an od : Option Addr}
    {osl : Array (Option Value)} {N ps : List Str} {sp : Sp} (lk : K.lookup f = some ⟨oc, od, .func (PySem.W.fnOf name qual params body scope dV kV doc pm an cdv ct), osl⟩) (hcd : PySem.W.codeIn K cdv qual = true) (S : FnScope N ps scope)
    (len : ∀ vs H Q E, sp vs H Q E → vs.length = ps.length)
    (hbody : ∀ (A : Around) (outer : List Env) (s : Shared) (H : Hp) (vs : List V) (Q : VK) (E : XK), Room k (A.deeper (envOfC qual scope s.heap.objs.size f cdv)) → sp vs H Q E →
      ∃ t, PSs (cxOf CX P w K mg base N qual scope f cdv A outer s H E) body t ∧ t { nx := fun _ H' => Q .non H', rt := Q } (start N vs) H) :
    FnOk P w K mg base CX (k + 1) f (PySem.W.fnOf name qual params body scope dV kV doc pm an cdv ct) ps sp := by
  refine ⟨len, fun A outer s H args us vs Q E hr e0 hb r hsp => ?_⟩
  have hl := len _ _ _ _ hsp
  have KX : K.In s.heap := e0.mod.kin.keeps fun b o e => (e0.bs b o e).1
  have lim : s.heap.NoLimit := e0.mod.nolimit.keeps fun b o e => (e0.bs b o e).1
  have hkind : ∀ y ∈ ps.zip us, scope.names.lookup y.1 = some .local ∨ (scope.names.lookup y.1 = some .cell ∧ ((cellsFrom (s.heap.objs.size + 1) scope.names []).lookup y.1).isSome = true) := fun ⟨n, v⟩ hy => by
    rcases S.par n (List.of_mem_zip hy).1 with q | q
    · exact .inl q
    · exact .inr ⟨q, PySem.W.cellsFrom_some _ _ _ (.inl q)⟩
  refine codeAny_call_function hr.depth (KX _ _ lk) rfl S.co S.gen rfl (PySem.W.codeRec_of KX hcd) (hb _ _ _ _ ?_)
  refine wpAny_newFunctionEnv_cells S.kind hkind fun env he s1 x => ?_
  subst he
  refine ⟨lim.keeps x.toInCall.keep, codeAny_func ?_⟩
  obtain ⟨t, ht, hq⟩ := hbody A outer s H vs Q E (hr.deeper _) hsp
  have I : Inv (cxOf CX P w K mg base N qual scope f cdv A outer s H E) [] (start N vs) H s1 := inv_start S hr.hd e0 hl r x
  refine wpAny_mono (ht [] s1 (start N vs) H _ I hq) (fun fl s' hs => ?_) fun e s' hs => hs
  have fin : ∀ {σ' : St} {H' : Hp} {v : V} {u : Value}, Inv (cxOf CX P w K mg base N qual scope f cdv A outer s H E) [] σ' H' s' → RelV v u → Q v H' → CE outer P w H s Q u s' :=
    fun {σ' H' v u} J rv q => ⟨v, H', J.os, J.bare, J.base, J.hok, rv, q⟩
  cases fl with
  | ret u =>
    obtain ⟨v, σ', H', J, rv, q⟩ := hs
    exact fin J rv q
  | next =>
    obtain ⟨σ', H', J, q⟩ := hs
    exact fin (v := V.non) (u := Value.none) J rfl q
  | brk =>
    obtain ⟨_, _, _, q⟩ := hs
    exact False.elim q
  | cont =>
    obtain ⟨_, _, _, q⟩ := hs
    exact False.elim q
end L2

namespace L2
open PySem PySem.Spec PyProof.Rows
section
variable {X : Cx} {x : Str} {p pos : Pos} {e : Expr} {es : List Expr} {t : TA} {id T : String} {r : List V → Hp → VK → Prop}

def tCB (r : List V → Hp → VK → Prop) (t : TA) : TE := fun σ H Q => t σ H fun vs H1 => r vs H1 Q
/-- f(e, ..), f a built-in function -/
theorem pe_callB (hc : CallR X (.builtin id) r) (hg : Gl X x) (hm : X.mg x = none) (hv : bootBuiltins x = some (.builtin id)) (ha : PA X (e :: es) t) (hn : x ≠ "__name__" := by decide) (hdb : (x == ("__debug__" : Str)) = false := by decide)
    (he : starEach (e :: es) X.env = (false, eval e X.env) :: starEach es X.env := by rfl) (hpl : (backTo pos (starEach es X.env)).any (·.1) = false := by rfl) : PE X (.Call (.Name x p) (e :: es) [] pos) (tCB r t) := by
  intro pins s σ H Q I h
  refine wpAny_Call_Name_kw (ld_blt I hg hm hv ?_ hn hdb)
  exact PyProof.Rows.callWith_builtin1 (thn (ha pos pins s σ H _ I h) fun us s1 ⟨vs, H1, I1, r1, q1⟩ => hc pins s1 σ H1 vs us Q I1 r1 q1) he hpl
/-- T(e, ..), T a built-in type -/
theorem pe_callTy (hc : CallR X (.type T) r) (hg : Gl X x) (hm : X.mg x = none) (hv : bootBuiltins x = some (.type T)) (ha : PA X (e :: es) t) (hn : x ≠ "__name__" := by decide) (hdb : (x == ("__debug__" : Str)) = false := by decide)
    (he : starEach (e :: es) X.env = (false, eval e X.env) :: starEach es X.env := by rfl) (hpl : (backTo pos (starEach es X.env)).any (·.1) = false := by rfl) : PE X (.Call (.Name x p) (e :: es) [] pos) (tCB r t) := by
  intro pins s σ H Q I h
  refine wpAny_Call_Name_kw (ld_blt I hg hm hv ?_ hn hdb)
  exact PyProof.Rows.callWith_type1 (thn (ha pos pins s σ H _ I h) fun us s1 ⟨vs, H1, I1, r1, q1⟩ => hc pins s1 σ H1 vs us Q I1 r1 q1) he hpl
end
end L2

namespace HT
open PySem PyProof.Rows



section
open PySem.SeqAt
open PySem.AutoSeq1 (wpAny_loadPart')
open PySem.MeetsSeq PySem.MeetsSeq2 PySem.MeetsSeq3

end

section
variable {prog : Program} {w : World} {A : Around} {E : Value → Shared → Prop} {s : Shared}



/-! ### t[a:b], not the whole -/
/-- a slice's bound as a place among n (d where it is left out) -/
def sIx (n d : Nat) : Option Int → Nat
  | none => d
  | some v => if v < 0 then (v + (n : Int)).toNat else min v.toNat n
theorem sIx_none (n d : Nat) : sIx n d none = d := rfl
theorem sIx_nat (n d k : Nat) : sIx n d (some (k : Int)) = min k n := by
  show (if (k : Int) < 0 then ((k : Int) + (n : Int)).toNat else min (k : Int).toNat n) = min k n
  rw [if_neg (by omega), Int.toNat_natCast]
theorem sIx_le (n d : Nat) (hd : d ≤ n) (o : Option Int) : sIx n d o ≤ n := by
  cases o with
  | none => exact hd
  | some v =>
    show (if v < 0 then (v + (n : Int)).toNat else min v.toNat n) ≤ n
    by_cases hv : v < 0
    · rw [if_pos hv]; omega
    · rw [if_neg hv]; exact Nat.min_le_right _ _
theorem clip_eq (v : Int) (n d : Nat) : (if v < 0 then max (v + (n : Int)) 0 else min v (n : Int)) = ((sIx n d (some v) : Nat) : Int) := by
  show (if v < 0 then max (v + (n : Int)) 0 else min v (n : Int)) = (((if v < 0 then (v + (n : Int)).toNat else min v.toNat n) : Nat) : Int)
  by_cases hv : v < 0
  · simp only [if_pos hv]; omega
  · simp only [if_neg hv]; omega

end
end HT

namespace L2
open PySem PySem.Spec PyProof.Rows

/-! ### the parts of a slice -/
abbrev TO := St → Hp → (Option Int → Hp → Prop) → Prop
/-- a slice's part (left out, or an int) -/
def PO (X : Cx) (e : Option Expr) (t : TO) : Prop :=
  ∀ (pins : List (Addr × Obj)) (s : Shared) (σ : St) (H : Hp) (Q : Option Int → Hp → Prop), Inv X pins σ H s → t σ H Q →
    wpAny (model X.prog X.w) X.A (evalPart e X.env) (fun u s' => ∃ o H', Inv X pins σ H' s' ∧ IsPart u o ∧ Q o H') X.xe s
def tNoPart : TO := fun _ H Q => Q none H
def tPart (t : TE) : TO := fun σ H Q => t σ H fun x H1 => ∃ i, x = .int i ∧ Q (some i) H1


section
variable {X : Cx} {e : Expr} {te : TE} {lo hi : Option Expr} {tl th : TO} {pos p2 : Pos}

theorem po_none : PO X none tNoPart := by
  intro pins s σ H Q I h
  rw [evalPart_none]
  exact wpAny_pure ⟨none, H, I, .none, h⟩
theorem po_some (h : PE X e te) : PO X (some e) (tPart te) := by
  intro pins s σ H Q I hw
  rw [evalPart_some]
  refine thn (h pins s σ H _ I hw) fun u s1 ⟨x, H1, I1, r1, q1⟩ => ?_
  obtain ⟨i, rfl, q⟩ := q1
  obtain ⟨t, rfl⟩ := r1
  exact ⟨some i, H1, I1, .int i t, q⟩

/-- what a slice of a value is, by values: the slice object stands at sl -/
def SlR (X : Cx) (r : V → Option Int → Option Int → Hp → VK → Prop) : Prop :=
  ∀ (pins : List (Addr × Obj)) (s : Shared) (σ : St) (H : Hp) (x : V) (v vl vu : Value) (lo hi : Option Int) (sl : Addr) (Q : VK), Inv X pins σ H s → RelV x v → s.heap.IsSliceOf sl vl vu .none → IsPart vl lo → IsPart vu hi → r x lo hi H Q →
    ∃ T id, typeLookup (.type T) "__getitem__" = pure (some (.builtin id)) ∧ s.TypeIs v T ∧ wpAny (model X.prog X.w) X.A (getItem v (.ref sl)) (EP X pins σ Q) X.xe s
def tSl (r : V → Option Int → Option Int → Hp → VK → Prop) (te : TE) (tl th : TO) : TE := fun σ H Q => te σ H fun x H1 => tl σ H1 fun l H2 => th σ H2 fun u H3 => r x l u H3 Q
/-- a[lo:hi], any a -/
theorem pe_slice {r : V → Option Int → Option Int → Hp → VK → Prop} (hr : SlR X r) (he : PE X e te) (hl : PO X lo tl) (hu : PO X hi th) : PE X (.Subscript e (.Slice lo hi none p2) pos) (tSl r te tl th) := by
  intro pins s σ H Q I h
  refine Subscript_ (thn (he pins s σ H _ I h) fun v s1 ⟨x, H1, I1, r1, q1⟩ => ?_)
  refine wpAny_Slice (thn (hl pins s1 σ H1 _ I1 q1) fun vl s2 ⟨l, H2, I2, pl, q2⟩ => thn (hu pins s2 σ H2 _ I2 q2) fun vu s3 ⟨u, H3, I3, pu, q3⟩ => ?_)
  rw [evalPart_none]
  refine wpAny_pure ?_
  have I4 : Inv X pins σ H3 { s3 with heap := s3.heap.push { cls := .type "slice", data := .fields #[vl, vu, .none] } } := I3.kept (t' := s3.toks) fun b ob q => Heap.get?_push_of_some _ q
  obtain ⟨T, id, hT, ht, hg⟩ := hr pins { s3 with heap := s3.heap.push { cls := .type "slice", data := .fields #[vl, vu, .none] } } σ H3 x v vl vu l u s3.heap.objs.size Q I4 r1 (Heap.IsSliceOf.new ..) pl pu q3
  show wpAny (model X.prog X.w) X.A (subscriptTail e (.Slice lo hi none p2) v (.ref s3.heap.objs.size)) (EP X pins σ Q) X.xe { s3 with heap := s3.heap.push { cls := .type "slice", data := .fields #[vl, vu, .none] } }
  exact tail_any (ops := [.ref s3.heap.objs.size, v]) ht hT hg (by with_unfolding_all rfl)

/-- the items of xs[lo:hi] -/
def cutV (xs : List V) (lo hi : Option Int) : List V := (xs.drop (HT.sIx xs.length 0 lo)).take (HT.sIx xs.length xs.length hi - HT.sIx xs.length 0 lo)
theorem cutV_length (xs : List V) (lo hi : Option Int) : (cutV xs lo hi).length ≤ xs.length := by
  unfold cutV
  rw [List.length_take, List.length_drop]
  omega

/-! ### t < u, t + u -/
end
end L2

namespace L2
open PySem PySem.Spec PyProof.Rows

/-! ### places -/
/-- the place that an index of any sign means -/
def ixN (n : Nat) (i : Int) : Option Nat := if 0 ≤ i then (if i < n then some i.toNat else none) else if -(n : Int) ≤ i then some (i + n).toNat else none
def atI {α : Type} (xs : List α) (i : Int) : Option α := (ixN xs.length i).bind fun j => xs[j]?
theorem ixN_seq {n : Nat} {i : Int} {j : Nat} (h : ixN n i = some j) : seqIndex? i n = some j ∧ j < n ∧ -(n : Int) ≤ i ∧ i < n := by
  unfold ixN at h
  by_cases h0 : 0 ≤ i
  · rw [if_pos h0] at h
    by_cases h1 : i < n
    · rw [if_pos h1] at h
      have e : i.toNat = j := Option.some.inj h
      exact ⟨by rw [seqIndex_of h0 h1, e], by omega, by omega, h1⟩
    · rw [if_neg h1] at h; cases h
  · rw [if_neg h0] at h
    by_cases h1 : -(n : Int) ≤ i
    · rw [if_pos h1] at h
      have e : (i + n).toNat = j := Option.some.inj h
      exact ⟨by rw [seqIndex_neg (by omega) h1, e], by omega, h1, by omega⟩
    · rw [if_neg h1] at h; cases h
theorem atI_get {α : Type} {xs : List α} {i : Int} {v : α} (h : atI xs i = some v) : ∃ j, seqIndex? i xs.length = some j ∧ xs[j]? = some v ∧ j < xs.length ∧ -(xs.length : Int) ≤ i ∧ i < xs.length := by
  unfold atI at h
  cases e : ixN xs.length i with
  | none => rw [e] at h; cases h
  | some j =>
    rw [e] at h
    obtain ⟨h1, h2, h3, h4⟩ := ixN_seq e
    exact ⟨j, h1, h, h2, h3, h4⟩
theorem atI_nat {α : Type} {xs : List α} {j : Nat} {v : α} (h : xs[j]? = some v) : atI xs (j : Int) = some v := by
  have hj : j < xs.length := (List.getElem?_eq_some_iff.mp h).1
  have e : ixN xs.length (j : Int) = some j := by
    unfold ixN
    rw [if_pos (by omega), if_pos (by omega)]; simp
  unfold atI; rw [e]; exact h
theorem atI_last {α : Type} (xs : List α) (v : α) : atI (xs ++ [v]) (-1) = some v := by
  have hl : (xs ++ [v]).length = xs.length + 1 := by simp
  have e : ixN (xs ++ [v]).length (-1) = some xs.length := by
    unfold ixN
    rw [hl, if_neg (by decide), if_pos (by omega)]
    congr 1
    omega
  unfold atI
  rw [e]
  show (xs ++ [v])[xs.length]? = some v
  simp

/-! ### what may be subscripted -/
/-- what stands as an index of a plain subscript -/
def PlainIx (b : Expr) : Prop := ∀ o i, subscripted b false o i = operate [o, i] (getItem o i)
/-- a subscript by values -/
def IxR (X : Cx) (r : R2) : Prop :=
  ∀ (value slice : Expr) (pins : List (Addr × Obj)) (s : Shared) (σ : St) (H : Hp) (x y : V) (v u : Value) (Q : VK), Inv X pins σ H s → RelV x v → RelV y u → r x y H Q →
    subscripted slice false v u = operate [v, u] (getItem v u) → wpAny (model X.prog X.w) X.A (subscriptTail value slice v u) (EP X pins σ Q) X.xe s
/-- a call of a builtin's method by values: the receiver, the arguments -/
def MtR (X : Cx) (id : String) (r : V → List V → Hp → VK → Prop) : Prop :=
  ∀ (pins : List (Addr × Obj)) (s : Shared) (σ : St) (H : Hp) (x : V) (xs : List V) (v : Value) (us : List Value) (Q : VK), Inv X pins σ H s → RelV x v → Vals xs us → r x xs H Q →
    wpAny (model X.prog X.w) X.A (call (.builtin id) (v :: us)) (EP X pins σ Q) X.xe s
section
variable {X : Cx} {a b : Expr} {ta tb : TE} {pos : Pos}
/-- a[b] -/
theorem pe_ix {r : R2} (hr : IxR X r) (ha : PE X a ta) (hb : PE X b tb) (hs : PlainIx b) : PE X (.Subscript a b pos) (tOp r ta tb) := by
  intro pins s σ H Q I h
  exact Subscript_ (binT ha hb I h fun v u s2 x y H2 I2 rx ry q => hr a b pins s2 σ H2 x y v u Q I2 rx ry q (hs _ _))

def rIxL (K : PySem.W.Frag) : R2 := fun x y H Q => ∃ p xs i v, x = .ref p ∧ y = .int i ∧ SqL K H p xs ∧ atI xs i = some v ∧ Q v H
def rIxS : R2 := fun x y H Q => ∃ z i c, x = .str z ∧ y = .int i ∧ z.length ≤ sizeLine ∧ atI z.cps.toList i = some c ∧ Q (.str ⟨#[c]⟩) H
theorem ix_list : IxR X (rIxL X.K) := by
  intro value slice pins s σ H x y v u Q I rx ry h hs
  obtain ⟨p, xs, i, z, rfl, rfl, hq, he, q⟩ := h
  cases rx
  obtain ⟨t, rfl⟩ := ry
  obtain ⟨its, r, pl, hz⟩ := I.list hq
  obtain ⟨j, h1, h2, h3, h4, h5⟩ := atI_get he
  obtain ⟨w, ew, rw'⟩ := r.get h2
  have hl := r.length
  have hn := line63
  have fin : EP X pins σ Q w s := ⟨z, H, I, rw', q⟩
  by_cases h0 : 0 ≤ i
  · have hj : i.toNat = j := by
      rw [seqIndex_of h0 h5] at h1
      exact Option.some.inj h1
    exact item_listR pl.isList h0 (by omega) (by rw [hj]; simpa using ew) fin hs
  · have hj : (i + (its.toArray.size : Int)).toNat = j := by
      rw [seqIndex_neg (by omega) h4] at h1
      rw [List.size_toArray, ← hl]
      exact Option.some.inj h1
    exact subscriptTail_builtinR (x := w) pl.isList.typeIs slot_list_getitem.lookup
      (wpAny_getItem_list_neg (Q := fun r s' => r = w ∧ EP X pins σ Q r s') pl.isList (by omega) (by rw [List.size_toArray] <;> omega) (by omega) (by rw [hj]; simpa using ew) ⟨rfl, fin⟩) hs
theorem ix_str : IxR X rIxS := by
  intro value slice pins s σ H x y v u Q I rx ry h hs
  obtain ⟨z, i, c, rfl, rfl, hz, he, q⟩ := h
  obtain ⟨t, rfl⟩ := rx
  obtain ⟨t', rfl⟩ := ry
  obtain ⟨j, h1, h2, h3, h4, h5⟩ := atI_get he
  have hl : z.cps.toList.length = z.length := by simp [Str.length]
  rw [hl] at h1 h4 h5
  have hn := line63
  exact tail_any (typeIs_str s z t) slot_str_getitem.lookup (getItem_str (c := c) (by
    have e1 : decide (i < -(2 ^ 63 : Int)) = false := decide_eq_false (by omega)
    have e2 : decide (i ≥ 2 ^ 63) = false := decide_eq_false (by omega)
    rw [e1, e2, Bool.or_false]) (by rw [h1]; simpa using h2) ⟨.str ⟨#[c]⟩, H, I.tok _, ⟨_, rfl⟩, q⟩) hs

/-! ### xs[i] = v, any sign -/

/-! ### slices -/
theorem slice_bounds (lo hi : Option Int) (n : Nat) : (sliceBounds lo hi none n).1 = ((HT.sIx n 0 lo : Nat) : Int) ∧ (sliceBounds lo hi none n).2.1 = ((HT.sIx n n hi : Nat) : Int) ∧ (sliceBounds lo hi none n).2.2 = 1 := by
  refine ⟨?_, ?_, rfl⟩
  · cases lo with
    | none => simp [sliceBounds, HT.sIx]
    | some i =>
      simp only [sliceBounds, HT.sIx, Option.getD_none, show (1 : Int) > 0 by decide, if_true]
      by_cases h : i < 0
      · simp only [h, if_true] <;> omega
      · simp only [h, if_false] <;> omega
  · cases hi with
    | none => simp [sliceBounds, HT.sIx]
    | some i =>
      simp only [sliceBounds, HT.sIx, Option.getD_none, show (1 : Int) > 0 by decide, if_true]
      by_cases h : i < 0
      · simp only [h, if_true] <;> omega
      · simp only [h, if_false] <;> omega
theorem slicePick_cut (its : List Value) (lo hi : Option Int) : slicePick its.toArray lo hi none = ((its.drop (HT.sIx its.length 0 lo)).take (HT.sIx its.length its.length hi - HT.sIx its.length 0 lo)).toArray := by
  obtain ⟨h1, h2, h3⟩ := slice_bounds lo hi its.toArray.size
  unfold slicePick
  rw [h1, h2, h3]
  simp only [sliceRange_one, pick_run, List.size_toArray] <;> rfl
/-- xs[lo:hi] of a list: a new list -/
def rSlL (K : PySem.W.Frag) : V → Option Int → Option Int → Hp → VK → Prop := fun x lo hi H Q => ∃ a xs, x = .ref a ∧ SqL K H a xs ∧ ∀ p, H p = none → Q (.ref p) (upd H p (.lst (cutV xs lo hi)))
theorem sl_list : SlR X (rSlL X.K) := by
  intro pins s σ H x v vl vu lo hi sl Q I rx hs pl pu h
  obtain ⟨a, xs, rfl, hx, q⟩ := h
  cases rx
  obtain ⟨its, r, ht, hz⟩ := I.list hx
  have hlen := r.length
  refine ⟨"list", _, slot_list_getitem.lookup, ht.isList.typeIs, ?_⟩
  refine wpAny_getItem_list_slice ht.isList hs pl pu .none (by simp) ?_ (by rw [List.size_toArray] <;> omega)
  rw [slicePick_cut, ← hlen]
  refine ⟨.ref s.heap.objs.size, _, I.laid (t' := s.toks) (o := .lst (cutV xs lo hi)) (fun b ob q => Heap.get?_push_of_some _ q) (Nat.le_refl _) ?_, rfl, q _ (I.hok.fresh (Nat.le_refl _))⟩
  exact ⟨Nat.le_trans (cutV_length xs lo hi) hz, _, 0, (r.drop (HT.sIx xs.length 0 lo)).take (HT.sIx xs.length xs.length hi - HT.sIx xs.length 0 lo), Heap.get?_push_size _ rfl⟩

/-! ### in, not in: flat items -/
def flatV : V → Bool
  | .non => true
  | .bl _ => true
  | .int _ => true
  | .str _ => true
  | _ => false
/-- == of flat values -/
def eqV : V → V → Bool
  | .non, .non => true
  | .bl a, .bl b => a == b
  | .bl a, .int b => (if a then 1 else 0) == b
  | .int a, .bl b => a == (if b then 1 else 0)
  | .int a, .int b => a == b
  | .str a, .str b => a == b
  | _, _ => false
theorem eqAt_V {A : Around} {s : Shared} {y x : V} {u v : Value} (ry : RelV y u) (rx : RelV x v) (fy : flatV y = true) (fx : flatV x = true) : SeqAt.EqAt A s u v (eqV y x) := by
  cases y with
  | non =>
    cases ry
    cases x with
    | non => cases rx; exact SeqAt.EqAt.same _
    | bl b => cases rx; exact SeqAt.EqAt.none_bool b
    | int b => obtain ⟨t, rfl⟩ := rx; exact SeqAt.EqAt.none_int b t
    | str b => obtain ⟨t, rfl⟩ := rx; exact SeqAt.EqAt.none_str b t
    | _ => exact absurd (show false = true from fx) Bool.false_ne_true
  | bl a =>
    cases ry
    cases x with
    | non => cases rx; exact SeqAt.EqAt.bool_none a
    | bl b => cases rx; exact SeqAt.EqAt.bool_bool a b
    | int b => obtain ⟨t, rfl⟩ := rx; exact SeqAt.EqAt.bool_int a b t
    | str b => obtain ⟨t, rfl⟩ := rx; exact SeqAt.EqAt.bool_str a b t
    | _ => exact absurd (show false = true from fx) Bool.false_ne_true
  | int a =>
    obtain ⟨t', rfl⟩ := ry
    cases x with
    | non => cases rx; exact SeqAt.EqAt.int_none a t'
    | bl b => cases rx; exact SeqAt.EqAt.int_bool a t' b
    | int b => obtain ⟨t, rfl⟩ := rx; exact SeqAt.EqAt.int_int a t' b t
    | str b => obtain ⟨t, rfl⟩ := rx; exact SeqAt.EqAt.int_str a t' b t
    | _ => exact absurd (show false = true from fx) Bool.false_ne_true
  | str a =>
    obtain ⟨t', rfl⟩ := ry
    cases x with
    | non => cases rx; exact SeqAt.EqAt.str_none a t'
    | bl b => cases rx; exact SeqAt.EqAt.str_bool a t' b
    | int b => obtain ⟨t, rfl⟩ := rx; exact SeqAt.EqAt.str_int a t' b t
    | str b => obtain ⟨t, rfl⟩ := rx; exact SeqAt.EqAt.str_str a t' b t
    | _ => exact absurd (show false = true from fx) Bool.false_ne_true
  | _ => exact absurd (show false = true from fy) Bool.false_ne_true
/-- the items' answers, read off the values (a value's own answer does not lean on its token) -/
def eqU (x : V) (u : Value) : Bool := match u with
  | .none => eqV .non x
  | .bool b => eqV (.bl b) x
  | .int i _ => eqV (.int i) x
  | .str z _ => eqV (.str z) x
  | _ => false
theorem eqU_of {x y : V} {u : Value} (r : RelV y u) (f : flatV y = true) : eqU x u = eqV y x := by
  cases y with
  | non => cases r; rfl
  | bl b => cases r; rfl
  | int i => obtain ⟨t, rfl⟩ := r; rfl
  | str z => obtain ⟨t, rfl⟩ := r; rfl
  | _ => exact absurd (show false = true from f) Bool.false_ne_true
theorem any_eqU {x : V} : ∀ {xs : List V} {us : List Value}, Vals xs us → xs.all flatV = true → us.any (eqU x) = xs.any fun y => eqV y x
  | _, _, .nil, _ => rfl
  | y :: xs, u :: us, .cons r t, f => by
    rw [List.all_cons, Bool.and_eq_true] at f
    rw [List.any_cons, List.any_cons, eqU_of r f.1, any_eqU t f.2]
theorem mem_eqAt {A : Around} {s : Shared} {x : V} {v : Value} (rx : RelV x v) (fx : flatV x = true) : ∀ {xs : List V} {us : List Value}, Vals xs us → xs.all flatV = true → ∀ u ∈ us, SeqAt.EqAt A s u v (eqU x u)
  | _, _, .nil, _ => fun u hu => by cases hu
  | y :: xs, u :: us, .cons r t, f => fun u' hu => by
    rw [List.all_cons, Bool.and_eq_true] at f
    rcases List.mem_cons.mp hu with rfl | hu
    · rw [eqU_of r f.1]; exact eqAt_V r rx f.1 fx
    · exact mem_eqAt rx fx t f.2 u' hu
def inV (x : V) (xs : List V) : Bool := xs.any fun y => eqV y x
/-- x in a list or tuple of flat items -/
def rIn (K : PySem.W.Frag) (neg : Bool) : R2 := fun x y H Q => ∃ p xs, y = .ref p ∧ (SqL K H p xs ∨ SqT K H p xs) ∧ flatV x = true ∧ xs.all flatV = true ∧ Q (.bl (if neg then !inV x xs else inV x xs)) H
theorem op_in_seq : OpR X (compareOp .In) (rIn X.K false) := by
  intro pins s σ H x y v u Q I rx ry h
  obtain ⟨p, xs, rfl, hq, fx, fs, q⟩ := h
  cases ry
  rcases hq with hq | hq
  · obtain ⟨its, r, pl, hz⟩ := I.list hq
    refine SeqAt.in_listAt (eqU x) pl.isList (fun w hw => mem_eqAt rx fx r fs w (by simpa using hw)) ⟨.bl _, H, I, rfl, ?_⟩
    rw [show its.toArray.any (eqU x) = its.any (eqU x) by simp, any_eqU r fs]
    exact q
  · obtain ⟨its, r, pl, hz⟩ := I.tuple hq
    refine SeqAt.in_tupleAt (eqU x) pl (fun w hw => mem_eqAt rx fx r fs w (by simpa using hw)) ⟨.bl _, H, I, rfl, ?_⟩
    rw [show its.toArray.any (eqU x) = its.any (eqU x) by simp, any_eqU r fs]
    exact q
theorem op_notIn_seq : OpR X (compareOp .NotIn) (rIn X.K true) := by
  intro pins s σ H x y v u Q I rx ry h
  obtain ⟨p, xs, rfl, hq, fx, fs, q⟩ := h
  cases ry
  rcases hq with hq | hq
  · obtain ⟨its, r, pl, hz⟩ := I.list hq
    refine SeqAt.notIn_listAt (eqU x) pl.isList (fun w hw => mem_eqAt rx fx r fs w (by simpa using hw)) ⟨.bl _, H, I, rfl, ?_⟩
    rw [show its.toArray.any (eqU x) = its.any (eqU x) by simp, any_eqU r fs]
    exact q
  · obtain ⟨its, r, pl, hz⟩ := I.tuple hq
    refine SeqAt.notIn_tupleAt (eqU x) pl (fun w hw => mem_eqAt rx fx r fs w (by simpa using hw)) ⟨.bl _, H, I, rfl, ?_⟩
    rw [show its.toArray.any (eqU x) = its.any (eqU x) by simp, any_eqU r fs]
    exact q

/-! ### len, list(x), tuple(x) of any list or tuple that is read -/
theorem call_len_seq : CallR X (.builtin "len") (fun xs H Q => ∃ p ys, xs = [.ref p] ∧ (SqL X.K H p ys ∨ SqT X.K H p ys) ∧ Q (.int ys.length) H) := by
  intro pins s σ H xs us Q I r h
  obtain ⟨p, ys, rfl, hq, q⟩ := h
  obtain ⟨u, rfl, rx⟩ := vals1 r
  cases rx
  have hn := line63
  rcases hq with hq | hq
  · obtain ⟨its, r', pl, hz⟩ := I.list hq
    have hlen := r'.length
    exact Calls.call_len_list pl.isList (by simp only [List.size_toArray] <;> omega) ⟨.int ys.length, H, I.tok _, ⟨s.toks + 1, by rw [List.size_toArray, hlen]⟩, q⟩
  · obtain ⟨its, r', pl, hz⟩ := I.tuple hq
    have hlen := r'.length
    exact len_tuple pl (by simp only [List.size_toArray] <;> omega) ⟨.int ys.length, H, I.tok _, ⟨s.toks + 1, by rw [List.size_toArray, hlen]⟩, q⟩
theorem call_len_str : CallR X (.builtin "len") (fun xs H Q => ∃ z, xs = [.str z] ∧ z.length ≤ sizeLine ∧ Q (.int z.length) H) := by
  intro pins s σ H xs us Q I r h
  obtain ⟨z, rfl, hz, q⟩ := h
  obtain ⟨u, rfl, t, rfl⟩ := vals1 r
  have hn := line63
  exact len_str (by omega) ⟨.int z.length, H, I.tok _, ⟨_, rfl⟩, q⟩

/-! ### the call of a builtin's method: o.m(..) -/
/-- the value is of that builtin type -/
def tyV (K : PySem.W.Frag) (T : String) (x : V) (H : Hp) : Prop := match x with
  | .str _ => T = "str"
  | .int _ => T = "int"
  | .ref p => (T = "list" ∧ ∃ xs, SqL K H p xs) ∨ (T = "tuple" ∧ ∃ o, K.lookup p = some o ∧ o.cls = .type "tuple" ∧ o.dict = none) ∨
      (T = "dict" ∧ ((∃ kvs, H p = some (.dK kvs)) ∨ ∃ kvs, H p = some (.dT kvs))) ∨ (T = "set" ∧ ∃ S n, H p = some (.set S n))
  | _ => False
theorem tyV_is {pins : List (Addr × Obj)} {σ : St} {H : Hp} {s : Shared} {T : String} {x : V} {v : Value} (I : Inv X pins σ H s) (r : RelV x v) (ty : tyV X.K T x H) :
    s.TypeIs v T ∧ ∀ a, v = .ref a → ∃ ob, s.heap.get? a = some ob ∧ ob.dict = none := by
  cases x with
  | str z =>
    obtain ⟨t, rfl⟩ := r
    cases (show T = "str" from ty)
    exact ⟨typeIs_str s z t, fun _ e => nomatch e⟩
  | int i =>
    obtain ⟨t, rfl⟩ := r
    cases (show T = "int" from ty)
    exact ⟨typeIs_int s i t, fun _ e => nomatch e⟩
  | ref p =>
    cases r
    rcases ty with ⟨rfl, xs, hq⟩ | ⟨rfl, o, hk, hc, hd⟩ | ⟨rfl, hk⟩ | ⟨rfl, S, n, hk⟩
    · obtain ⟨its, _, pl, _⟩ := I.list hq
      refine ⟨pl.isList.typeIs, fun a e => ?_⟩
      cases e
      obtain ⟨o, n, e, c, hd, _⟩ := pl
      exact ⟨o, e, hd⟩
    · refine ⟨⟨o, I.kIn p o hk, hc⟩, fun a e => ?_⟩
      cases e
      exact ⟨o, I.kIn _ o hk, hd⟩
    · have z : ∃ o, s.heap.get? p = some o ∧ o.ExactDict := by
        rcases hk with ⟨kvs, hk⟩ | ⟨kvs, hk⟩
        · obtain ⟨_, _, _, _, o, _, _, e, ex, _⟩ := I.hok p _ hk
          exact ⟨o, e, ex⟩
        · obtain ⟨_, _, _, _, o, _, _, e, ex, _⟩ := I.hok p _ hk
          exact ⟨o, e, ex⟩
      obtain ⟨o, e, ex⟩ := z
      refine ⟨⟨o, e, ex.1⟩, fun a e2 => ?_⟩
      cases e2
      exact ⟨o, e, ex.2.1⟩
    · obtain ⟨o, _, _, _, e, ex, _⟩ := I.hok p _ hk
      refine ⟨⟨o, e, ex.1⟩, fun a e2 => ?_⟩
      cases e2
      exact ⟨o, e, ex.2.1⟩
  | _ => exact False.elim ty
def tBM (K : PySem.W.Frag) (T : String) (r : V → List V → Hp → VK → Prop) (to : TE) (t : TA) : TE := fun σ H Q => to σ H fun x H1 => tyV K T x H1 ∧ t σ H1 fun xs H2 => r x xs H2 Q
variable {o e : Expr} {es : List Expr} {to : TE} {t : TA} {name : Str} {apos cpos : Pos} {T id : String} {r : V → List V → Hp → VK → Prop}
theorem pe_bm (pa : PlainAttrs T) (slot : Slot T name id) (hty : typeOf (.builtin id) = pure (.type "method_descriptor")) (hm : MtR X id r) (ho : PE X o to) (ha : PA X (e :: es) t)
    (hbase : attributeBase o name X.env (eval o X.env) = eval o X.env := by rfl)
    (hfew : ((backTo cpos (starEach (e :: es) X.env)).all (fun x => !x.1) && (backToKw cpos (keywordEach [] X.env)).all (fun x => x.1.isSome)
      && decide ((e :: es).length + ([] : List Keyword).length + (if ([] : List Keyword).isEmpty then 0 else 1) < 30)) = true := by rfl)
    (hline : (apos.endLine == cpos.line) = true := by rfl) (hs : starEach (e :: es) X.env = (false, eval e X.env) :: starEach es X.env := by rfl) (hplain : (backTo cpos (starEach es X.env)).any (·.1) = false := by rfl) :
    PE X (.Call (.Attribute o name apos) (e :: es) [] cpos) (tBM X.K T r to t) := by
  intro pins s σ H Q I h
  refine wpAny_Call_method_late hbase hfew hline rfl (thn (ho pins s σ H _ I h) fun v s1 ⟨x, H1, I1, r1, ty, q1⟩ => ?_)
  obtain ⟨h1, h2⟩ := tyV_is I1 r1 ty
  refine ⟨T, id, pa, slot, hty, h1, h2, ?_⟩
  have hA := ha cpos pins s1 σ H1 _ I1 q1
  rw [hs] at hA ⊢
  refine Calls.callWith_builtin (by show (false || (backTo cpos (starEach es X.env)).any (·.1)) = false; rw [hplain] <;> rfl) (Calls.evalArgs_plain ?_)
  exact thn hA fun us s2 ⟨vs, H2, I2, r2, q2⟩ => hm pins s2 σ H2 x vs v us Q I2 r1 r2 q2
/- xs.append(e), list.index on a module's tuple .. are MtR facts of 06m -/
end
end L2

namespace L2
open PySem PySem.Spec PyProof.Rows

def MtM (X : Cx) (id : String) (r : V → List V → Hp → VK → Prop) : Prop :=
  ∀ (pins : List (Addr × Obj)) (s : Shared) (σ : St) (H : Hp) (x : V) (xs : List V) (v : Value) (us : List Value) (Q : VK), Inv X pins σ H s → RelV x v → Vals xs us → r x xs H Q →
    wpAny (model X.prog X.w) X.A (call (.builtin id) (v :: us)) (EP X pins σ Q) X.xe s

/-! ### lists of values -/
theorem Vals.one : ∀ {x : V} {us : List Value}, Vals [x] us → ∃ u, us = [u] ∧ RelV x u
  | _, _, .cons r .nil => ⟨_, rfl, r⟩
theorem Vals.rep {xs : List V} {us : List Value} (h : Vals xs us) : ∀ k : Nat, Vals (List.replicate k xs).flatten (List.replicate k us).flatten
  | 0 => .nil
  | k + 1 => by
    rw [List.replicate_succ, List.replicate_succ, List.flatten_cons, List.flatten_cons]
    exact Vals.append h (Vals.rep h k)
theorem foldl_rep (its : List Value) : ∀ (k : Nat) (acc : List Value),
    List.foldl (fun x1 x2 => x1 ++ x2) acc.toArray (List.replicate k its.toArray) = (acc ++ (List.replicate k its).flatten).toArray
  | 0, acc => by simp
  | k + 1, acc => by
    have e : acc.toArray ++ its.toArray = (acc ++ its).toArray := by simp
    have e2 : (acc ++ its) ++ (List.replicate k its).flatten = acc ++ (List.replicate (k + 1) its).flatten := by
      rw [List.replicate_succ, List.flatten_cons, List.append_assoc]
    rw [← e2, ← foldl_rep its k (acc ++ its), ← e, List.replicate_succ, List.foldl_cons]

section
variable {X : Cx} {pins : List (Addr × Obj)} {σ : St} {H : Hp} {s : Shared} {l b : Addr} {xs ys zs : List V}

/-! ### the two steps: a tracked list is rewritten, a new list is laid -/
theorem Inv.lset {its its' : List Value} {n : Nat} {f : Array Value → Array Value} {t' : Nat} (I : Inv X pins σ H s) (hH : H l = some (.lst xs))
    (e : s.heap.get? l = some { cls := .type "list", data := .seq its.toArray n }) (hf : f its.toArray = its'.toArray) (hv : Vals ys its') (hz : ys.length ≤ sizeLine) :
    Inv X pins σ (upd H l (.lst ys)) { s with heap := s.heap.update l (Obj.mapSeq f), toks := t' } := by
  have q := PySem.IsL.update e f
  rw [hf] at q
  refine I.write (x := l) (e := l) (by rw [hH]; exact trivial) (.inl rfl) (fun b' u hb hu => (Heap.get?_update_other s.heap (Obj.mapSeq f) (Ne.symm hb)).trans hu) ⟨_, q⟩ ?_
  exact ⟨hz, its', _, hv, q⟩
theorem Inv.lnew {its : List Value} {t' : Nat} (I : Inv X pins σ H s) (hv : Vals ys its) (hz : ys.length ≤ sizeLine) :
    Inv X pins σ (upd H s.heap.objs.size (.lst ys)) { s with heap := s.heap.push { cls := .type "list", data := .seq its.toArray }, toks := t' } :=
  I.laid (fun _ _ q => Heap.get?_push_of_some _ q) (Nat.le_refl _) ⟨hz, its, 0, hv, Heap.get?_push_size _ rfl⟩
theorem Inv.fresh (I : Inv X pins σ H s) : H s.heap.objs.size = none := I.hok.fresh (Nat.le_refl _)
theorem Inv.lstM (I : Inv X pins σ H s) (hH : H l = some (.lst xs)) : xs.length ≤ sizeLine ∧ ∃ (its : List Value) (n : Nat), Vals xs its ∧ xs.length = its.length ∧ s.heap.get? l = some { cls := .type "list", data := .seq its.toArray n } := by
  obtain ⟨z, its, n, r, e⟩ := I.hok l _ hH
  exact ⟨z, its, n, r, r.length, e⟩

theorem notLongL {n : Nat} (h : n ≤ sizeLine) : Builtin.List.listTooLong n = false := by
  unfold Builtin.List.listTooLong
  exact decide_eq_false (by omega)
end

section
variable {X : Cx}

/-! ### methods -/
def rAppend : V → List V → Hp → VK → Prop := fun x vs H Q => ∃ l xs y, x = .ref l ∧ vs = [y] ∧ H l = some (.lst xs) ∧ xs.length < sizeLine ∧ Q .non (upd H l (.lst (xs ++ [y])))
theorem mt_append : MtM X "list.append" rAppend := by
  intro pins s σ H x vs v us Q I rx rv h
  obtain ⟨l, xs, y, rfl, rfl, hH, hz, q⟩ := h
  cases rx
  obtain ⟨u, rfl, ru⟩ := rv.one
  obtain ⟨z, its, n, r, hl, e⟩ := I.lstM hH
  refine call_meets F.slot_list_append ⟨_, e, rfl⟩ F.entry_list_append (F.args_list_append_2 _ _) (PySem.list_append l its.toArray n u (by rw [List.size_toArray]; omega)) ⟨e, ?_⟩
  refine ⟨.non, _, I.lset (its' := its ++ [u]) hH e (by simp) (r.append (.cons ru .nil)) ?_, rfl, q⟩
  rw [List.length_append, List.length_singleton]
  omega

def rExtend : V → List V → Hp → VK → Prop := fun x vs H Q => ∃ l b xs zs, x = .ref l ∧ vs = [.ref b] ∧ H l = some (.lst xs) ∧ H b = some (.lst zs) ∧ xs.length + zs.length ≤ sizeLine ∧ Q .non (upd H l (.lst (xs ++ zs)))
theorem mt_extend : MtM X "list.extend" rExtend := by
  intro pins s σ H x vs v us Q I rx rv h
  obtain ⟨l, b, xs, zs, rfl, rfl, hH, hB, hz, q⟩ := h
  cases rx
  obtain ⟨u, rfl, ru⟩ := rv.one
  cases ru
  obtain ⟨z, its, n, r, hl, e⟩ := I.lstM hH
  obtain ⟨z2, its2, n2, r2, hl2, e2⟩ := I.lstM hB
  have hsz : its.toArray.size + its2.toArray.size ≤ sizeLine := by rw [List.size_toArray, List.size_toArray]; omega
  have hlong : ¬ (!its.toArray.isEmpty && Builtin.List.listTooLong (its.toArray.size + its2.toArray.size)) = true := by
    rw [notLongL hsz, Bool.and_false]
    exact Bool.false_ne_true
  refine call_meets F.slot_list_extend ⟨_, e, rfl⟩ F.entry_list_extend (F.args_list_extend_2 _ _)
    (AutoSeq1.list_extend_list_list_0 l its.toArray n b its2.toArray n2 hlong (by rw [List.size_toArray]; omega) (by omega)) ⟨e, e2, ?_⟩
  refine ⟨.non, _, I.lset (its' := its ++ its2) hH e (by simp) (r.append r2) ?_, rfl, q⟩
  rw [List.length_append]
  omega





/-! ### list + list, list += list, list * int -/
def rCat : R2 := fun x y H Q => ∃ l b xs zs, x = .ref l ∧ y = .ref b ∧ H l = some (.lst xs) ∧ H b = some (.lst zs) ∧ xs.length + zs.length ≤ sizeLine ∧ ∀ p, H p = none → Q (.ref p) (upd H p (.lst (xs ++ zs)))
theorem op_cat : OpR X (binaryOp .Add) rCat := by
  intro pins s σ H x y v u Q I rx ry h
  obtain ⟨l, b, xs, zs, rfl, rfl, hH, hB, hz, q⟩ := h
  cases rx
  cases ry
  obtain ⟨z, its, n, r, hl, e⟩ := I.lstM hH
  obtain ⟨z2, its2, n2, r2, hl2, e2⟩ := I.lstM hB
  refine PySem.P.add_list e e2 ?_ (by rw [List.size_toArray, List.size_toArray]; omega)
  have ea : its.toArray ++ its2.toArray = (its ++ its2).toArray := by simp
  rw [ea]
  exact ⟨.ref _, _, I.lnew (t' := s.toks) (r.append r2) (by rw [List.length_append]; omega), rfl, q _ I.fresh⟩
/-- a list times an int (a negative one is nothing) -/
def rRep : R2 := fun x y H Q => ∃ l k xs, x = .ref l ∧ y = .int k ∧ H l = some (.lst xs) ∧ -(2 ^ 63) ≤ k ∧ k < 2 ^ 63 ∧ xs.length * k.toNat ≤ sizeLine ∧
  ∀ p, H p = none → Q (.ref p) (upd H p (.lst (List.replicate k.toNat xs).flatten))
theorem len_rep {α : Type} (xs : List α) (k : Nat) : (List.replicate k xs).flatten.length = k * xs.length := by
  induction k with
  | zero => simp
  | succ k ih => rw [List.replicate_succ, List.flatten_cons, List.length_append, ih, Nat.succ_mul, Nat.add_comm]
theorem op_rep : OpR X (binaryOp .Mult) rRep := by
  intro pins s σ H x y v u Q I rx ry h
  obtain ⟨l, k, xs, rfl, rfl, hH, h1, h2, hz, q⟩ := h
  cases rx
  obtain ⟨t, rfl⟩ := ry
  obtain ⟨z, its, n, r, hl, e⟩ := I.lstM hH
  have hlen : its.toArray.size * k.toNat ≤ sizeLine := by rw [List.size_toArray, ← hl]; exact hz
  have hcap : ¬ its.toArray.size * k.toNat > (2 ^ 63 - 1) / 8 := by
    have : (sizeLine : Nat) ≤ (2 ^ 63 - 1) / 8 := by decide
    omega
  have hfit : ¬ (!Builtin.List.listFitsIndex k) = true := by
    rw [fitsIndex_both h1 h2]
    exact Bool.false_ne_true
  have hlong : ¬ Builtin.List.listTooLong (its.toArray.size * k.toNat) = true := by
    rw [notLongL hlen]
    exact Bool.false_ne_true
  have hnew : List.foldl (fun x1 x2 => x1 ++ x2) #[] (List.replicate (if its.toArray.isEmpty = true then 0 else k.toNat) its.toArray) = (List.replicate k.toNat its).flatten.toArray := by
    have f0 : ∀ m : Nat, List.foldl (fun x1 x2 => x1 ++ x2) #[] (List.replicate m its.toArray) = (List.replicate m its).flatten.toArray := fun m => by
      have := foldl_rep its m []
      rw [List.nil_append] at this
      exact this
    rw [f0]
    cases its with
    | nil => simp
    | cons a r' => rw [if_neg (by simp)]
  refine wpAny_binaryOp_repeat_ref (T := "list") (U := "int") (by decide) ⟨_, e, rfl⟩ (fun s' => typeIs_int s' k t) noFill_list_mul F.fills_int_mul F.slot_int_rmul repeat_list F.slot_int_index.lookup
    (call_meets F.slot_int_rmul (typeIs_int s k t) F.entry_int_rmul (F.args_int_rmul_2 _ _) (int___rmul___int_list k t l its.toArray n)
      ⟨e, rfl, ⟨_, e, rfl⟩, call_meets F.slot_list_mul ⟨_, e, rfl⟩ F.entry_list_mul (F.args_list_mul_2 _ _) (AutoListH.list___mul___list_int_3 l its.toArray n k t hfit hcap hlong) ⟨e, ?_⟩⟩)
  rw [hnew]
  exact ⟨.ref _, _, I.lnew (t' := s.toks) (r.rep k.toNat) (by rw [len_rep, Nat.mul_comm]; exact hz), rfl, q _ I.fresh⟩

/-! ### del xs[i] -/
end

/-! ### xs[a:b] = ys -/
section
variable {prog : Program} {w : World} {A : Around} {E : Value → Shared → Prop} {s : Shared}
set_option maxRecDepth 100000 in
end

section
variable {X : Cx}
end
end L2

namespace L2
open PySem PySem.Spec PyProof.Rows

theorem Vals.ints : ∀ {ns : List Int} {us : List Value}, Vals (ns.map V.int) us → IntsAre us ns
  | [], us, h => by
    rw [List.map_nil] at h
    cases h
    exact IntsAre.nil
  | n :: ns, us, h => by
    rw [List.map_cons] at h
    cases h with
    | cons r t =>
      obtain ⟨k, rfl⟩ := r
      exact IntsAre.cons n k (Vals.ints t)
theorem vals_of_ints : ∀ {us : List Value} {ns : List Int}, IntsAre us ns → Vals (ns.map V.int) us
  | _, _, .nil => by rw [List.map_nil]; exact Paired.nil
  | _, _, .cons n t h => by rw [List.map_cons]; exact Paired.cons (show RelV (V.int n) (Value.int n t) from ⟨t, rfl⟩) (vals_of_ints h)
theorem Vals.bls : ∀ {bs : List Bool} {us : List Value}, Vals (bs.map V.bl) us → us = bs.map Value.bool
  | [], us, h => by
    rw [List.map_nil] at h
    cases h
    rfl
  | b :: bs, us, h => by
    rw [List.map_cons] at h
    cases h with
    | cons r t =>
      cases r
      rw [Vals.bls t, List.map_cons]
theorem Vals.ref1 {a : Addr} {us : List Value} (r : Vals [V.ref a] us) : us = [Value.ref a] := by
  cases r with
  | cons r t =>
    cases t
    cases r
    rfl

/-! ### the library's walks over a list of ints, kept objects alone -/
section
variable {prog : Program} {w : World} {A : Around} {E : Value → Shared → Prop} {s : Shared} {l : Addr} {its : List Value} {ns : List Int} {Q : Value → Shared → Prop}
theorem max_raw (hh : A.handled = none) (hl : s.heap.IsList l its.toArray) (hi : IntsAre its ns) (hne : 0 < ns.length)
    (h : ∀ h' tk M t', (∀ b o, s.heap.get? b = some o → h'.get? b = some o) → M ∈ ns → (∀ a, a ∈ ns → a ≤ M) → Q (.int M t') { s with heap := h', toks := tk }) : wpAny (model prog w) A (call (.builtin "max") [.ref l]) Q E s := by
  obtain ⟨xs, e⟩ := hi.allInts.items
  have hn : numsOf (intItems xs).toList = ns := by rw [← e]; exact hi.numsOf
  rw [nums_intItems] at hn
  subst hn
  rw [e] at hl
  have hsz : 0 < xs.size := by simpa using hne
  refine PySem.max_intList hh hl hsz fun v h' tk hv hk => ?_
  obtain ⟨t, rfl⟩ := intItems_at hv
  obtain ⟨h1, h2⟩ := argBest_gt (numAt xs) (xs.size - 1)
  refine h h' tk _ t hk ?_ fun a ha => ?_
  · rw [numAt_eq]; exact PySem.getD_mem (by rw [List.length_map, Array.length_toList]; omega)
  · obtain ⟨j, hj, rfl⟩ := mem_getD ha
    rw [List.length_map, Array.length_toList] at hj
    rw [← numAt_eq]; exact h2 j (by omega)
end

/-! ### the calls, by values (CallR of 03t; MtR of 06l) -/
section
variable {X : Cx}
/-- max(xs), min(xs) of a list of ints -/
def rMax (K : PySem.W.Frag) : List V → Hp → VK → Prop := fun vs H Q => ∃ (a : Addr) (ns : List Int), vs = [V.ref a] ∧ SqL K H a (ns.map V.int) ∧ 0 < ns.length ∧ ∀ m, m ∈ ns → (∀ y, y ∈ ns → y ≤ m) → Q (.int m) H
theorem cr_max (hc : X.calm = true) : CallR X (.builtin "max") (rMax X.K) := by
  intro pins s σ H vs us Q I r h
  obtain ⟨a, ns, rfl, hs, hne, q⟩ := h
  obtain ⟨its, rv, hl, _⟩ := I.list hs
  rw [Vals.ref1 r]
  exact max_raw (I.ok.hd hc) hl.isList rv.ints hne fun h' tk m t' hk h1 h2 => ⟨.int _, H, I.kept hk, ⟨_, rfl⟩, q m h1 h2⟩

/-! sorted, sort (fewer than 64 items: the library's own bound) -/
def rSorted (K : PySem.W.Frag) : List V → Hp → VK → Prop := fun vs H Q => ∃ (a : Addr) (ns : List Int), vs = [V.ref a] ∧ SqL K H a (ns.map V.int) ∧ ns.length < 64 ∧
  ∀ (ns' : List Int) (p : Addr), ns'.Perm ns → ns'.Pairwise (· ≤ ·) → H p = none → Q (.ref p) (upd H p (.lst (ns'.map V.int)))
theorem small64 {n : Nat} (h : n < 64) : n ≤ sizeLine := by rw [sizeLine_eq]; omega
theorem cr_sorted : CallR X (.builtin "sorted") (rSorted X.K) := by
  intro pins s σ H vs us Q I r h
  obtain ⟨a, ns, rfl, hs, h64, q⟩ := h
  obtain ⟨its, rv, hl, _⟩ := I.list hs
  rw [Vals.ref1 r]
  have hi := rv.ints
  refine PyProof.Rows.sorted_ints hl.isList hi (by rw [hi.length]; exact h64) fun out ns' h1 h2 h3 => ?_
  obtain ⟨ep, he'⟩ := PyProof.Rows.sortedAll_at s.heap its out
  have hlen : (ns'.map V.int).length ≤ sizeLine := by rw [List.length_map, h2.length_eq]; exact small64 h64
  exact ⟨.ref _, upd H (s.heap.objs.size + 1) (.lst (ns'.map V.int)), I.laid (t' := s.toks) (fun _ _ => PyProof.Rows.sortedAll_old) (Nat.le_succ _) ⟨hlen, out.toList, ep, vals_of_ints h1, he'⟩, rfl, q ns' _ h2 h3 (I.hok.fresh (Nat.le_succ _))⟩
end

/-! ### list.index, flat items -/
section
variable {X : Cx}
def rIndex (K : PySem.W.Frag) : V → List V → Hp → VK → Prop := fun x xs H Q => ∃ (a : Addr) (ys : List V) (y : V) (j : Nat) (z : V), x = V.ref a ∧ xs = [y] ∧ SqL K H a ys ∧ flatV y = true ∧ ys.all flatV = true ∧ ys[j]? = some z ∧ eqV z y = true ∧
  (∀ (m : Nat) (z' : V), m < j → ys[m]? = some z' → eqV z' y = false) ∧ Q (.int (j : Nat)) H
theorem flat_at {ys : List V} (f : ys.all flatV = true) {j : Nat} {z : V} (h : ys[j]? = some z) : flatV z = true := List.all_eq_true.mp f z (List.mem_of_getElem? h)
theorem mt_index : MtR X "list.index" (rIndex X.K) := by
  intro pins s σ H x xs v us Q I rx rxs h
  obtain ⟨a, ys, y, j, z, rfl, rfl, hs, fy, fys, hz, hzj, hno, q⟩ := h
  cases rx
  cases rxs with
  | cons ry rt =>
    rename_i uy ut
    cases rt
    obtain ⟨its, rv, ⟨⟨cls, dd, data, sl⟩, n, ho, hc, hdn, hd⟩, hlen⟩ := I.list hs
    simp only at hc hd
    subst hc hd
    obtain ⟨u, hu, ru⟩ := rv.get hz
    obtain ⟨hjl, hje⟩ := List.getElem?_eq_some_iff.mp hu
    have hvl := rv.length
    have hj : j < its.toArray.size := by simpa using hjl
    have hsl := sizeLine_eq
    refine call_meets PySem.F.slot_list_index ⟨_, ho, rfl⟩ PySem.F.entry_list_index (PySem.F.args_list_index_2 _ _)
      (SeqAt.list_indexAt a its.toArray n dd sl uy (eqU y) j hj (by omega) ?_ ?_) ⟨ho, fun u' hu' => mem_eqAt ry fy rv fys u' (by simpa using hu'), ?_⟩
    · have e1 : its.toArray[j] = u := by simpa using hje
      rw [e1, eqU_of ru (flat_at fys hz)]
      exact hzj
    · intro m hm hmj
      have hml : m < its.length := by simpa using hm
      have hmy : m < ys.length := by omega
      have hy' : ys[m]? = some ys[m] := List.getElem?_eq_getElem hmy
      obtain ⟨u2, hu2, ru2⟩ := rv.get hy'
      obtain ⟨_, hme⟩ := List.getElem?_eq_some_iff.mp hu2
      have e1 : its.toArray[m] = u2 := by simpa using hme
      rw [e1, eqU_of ru2 (flat_at fys hy')]
      exact hno m _ hmj hy'
    · exact ⟨.int (j : Nat), H, I.tok _, ⟨_, rfl⟩, q⟩
end

/-! ### type(x) of an own instance; is, is not of a module's class -/
section
variable {X : Cx}
end

/-! ### any(xs), all(xs) of a list of bools -/
theorem iter_any {prog : Program} {w : World} {A : Around} {E : Value → Shared → Prop} {s : Shared} {l : Addr} {items : Array Value} {Q : Value → Shared → Prop} (hl : s.heap.IsList l items)
    (h : ∀ s₂ : Shared, s₂ = { s with heap := s.heap.push { cls := .type "list_iterator", data := .fields #[.ref l, .int 0 0] } } →
      (s₂.heap.IsListIter s.heap.objs.size l 0 ∧ s₂.heap.IsList l items) → l ≠ s.heap.objs.size → Q (.ref s.heap.objs.size) s₂) : wpAny (model prog w) A (pyIter (.ref l)) Q E s := by
  have hlt : l < s.heap.objs.size := by obtain ⟨_, e, _⟩ := hl; exact Heap.lt_size e
  exact wpAny_pyIter_list hl (h _ rfl ⟨⟨_, Heap.get?_push_size _ rfl, rfl, rfl⟩, hl.push _⟩ (Nat.ne_of_lt hlt))
theorem truth_bools {prog : Program} {w : World} {A : Around} {bs : List Bool} {its : List Value} (e : its = bs.map Value.bool) :
    TruthOf prog w A (fun i v => its.toArray[i]? = some v) (fun i => bs.getD i false) := fun i v s Q E hv hq => by
  have hv' : its[i]? = some v := by simpa using hv
  rw [e, List.getElem?_map] at hv'
  obtain ⟨b, hb, rfl⟩ := Option.map_eq_some_iff.mp hv'
  have hg : bs.getD i false = b := by rw [List.getD_eq_getElem?_getD, hb] <;> rfl
  have hq' : Q (bs.getD i false) s := hq
  rw [hg] at hq'
  exact wpAny_truthy_bool hq'
theorem any_range : ∀ bs : List Bool, (List.range bs.length).any (fun i => bs.getD i false) = bs.any id
  | [] => rfl
  | b :: bs => by
    rw [List.length_cons, List.range_succ_eq_map, List.any_cons, List.any_map, List.any_cons, ← any_range bs]
    all_goals rfl
section
variable {X : Cx}
def rAny (K : PySem.W.Frag) : List V → Hp → VK → Prop := fun vs H Q => ∃ (a : Addr) (bs : List Bool), vs = [V.ref a] ∧ SqL K H a (bs.map V.bl) ∧ Q (.bl (bs.any id)) H
theorem cr_any (hc : X.calm = true) : CallR X (.builtin "any") (rAny X.K) := by
  intro pins s σ H vs us Q I r h
  obtain ⟨a, bs, rfl, hs, q⟩ := h
  obtain ⟨its, rv, hl, _⟩ := I.list hs
  rw [Vals.ref1 r]
  have hb := rv.bls
  refine call_any_walk (iter_any hl.isList fun s₂ e2 st hne => ?_)
  subst e2
  refine ⟨_, _, _, _, _, _, _, rfl, Walks.list (A := X.A.in1) (I.ok.hd hc) _ a hne its.toArray, st, truth_bools hb, fun h' tk hk => ?_⟩
  refine ⟨.bl _, H, I.kept fun b o eo => hk b o (fun hmem => ?_) (Heap.get?_push_of_some _ eo), ?_, q⟩
  · rcases List.mem_cons.mp hmem with e1 | hmem
    · exact absurd (e1 ▸ Heap.lt_size eo) (Nat.lt_irrefl _)
    · cases hmem
  · show Value.bool _ = Value.bool _
    rw [← any_range, hb, List.size_toArray, List.length_map]
end

/-! ### == and != of data at any depth: none, bools, ints, texts, lists, tuples -/
section
variable {X : Cx} {pins : List (Addr × Obj)} {σ : St} {H : Hp} {s : Shared}
end
section
variable {X : Cx}
end
end L2

namespace L2
open PySem PySem.Spec PyProof.Rows
abbrev CellAt (h : Heap) (c : Addr) (v : Option Value) : Prop := h.IsCell c v
def relS (scope sc : Scope) : Scope :=
  { scope with names := scope.names.map fun (n, k) => if (k == .free && sc.kind == .function && sc.names.lookup n == some .cell) then (n, .cell) else (n, k) }

def cloFrom (cells : List (Str × Addr)) : List (Str × NameKind) → List (Str × Addr) → List (Str × Addr)
  | [], acc => acc
  | (n, k) :: r, acc => if k == .free then cloFrom cells r ((n, (cells.lookup n).getD 0) :: acc) else cloFrom cells r acc

theorem closure_loop (env : Env) (f : Str × NameKind → List (Str × Addr) → Sem (ForInStep (List (Str × Addr))))
    (hf : ∀ n k c, f (n, k) c = if k == .free then (do let a ← cellOf env n; pure (.yield ((n, a) :: c))) else pure (.yield c)) :
    ∀ (names : List (Str × NameKind)) (acc : List (Str × Addr)), (∀ y ∈ names, y.2 = .free → ∃ c, env.cells.lookup y.1 = some c) → forIn names acc f = pure (cloFrom env.cells names acc)
  | [], acc, _ => by rw [List.forIn_nil]; rfl
  | (n, k) :: r, acc, h => by
    rw [List.forIn_cons, hf]
    have ih := fun acc => closure_loop env f hf r acc fun y hy => h y (List.mem_cons_of_mem _ hy)
    unfold cloFrom
    by_cases hk : (k == NameKind.free) = true
    · rw [if_pos hk, if_pos hk]
      obtain ⟨c, hc⟩ := h (n, k) List.mem_cons_self (by simpa using hk)
      have e : cellOf env n = pure c := by unfold cellOf; rw [hc]
      rw [e]
      have e2 : (env.cells.lookup n).getD 0 = c := by rw [hc]; rfl
      rw [e2]
      exact ih _
    · rw [if_neg hk, if_neg hk]
      exact ih _
theorem closure_ok {scope : Scope} {env : Env} (h : ∀ y ∈ scope.names, y.2 = .free → ∃ c, env.cells.lookup y.1 = some c) : closureFor scope env = pure (cloFrom env.cells scope.names []) := by
  simp only [closureFor]
  rw [closure_loop env _ (fun n k c => rfl) scope.names [] h]
  rfl

theorem mem_lookup {α : Type} : ∀ {l : List (Str × α)} {n : Str} {c : α}, (n, c) ∈ l → ∃ c', l.lookup n = some c'
  | (k, v) :: r, n, c, h => by
    rw [List.lookup_cons]
    cases hb : n == k with
    | true => exact ⟨_, rfl⟩
    | false =>
      rcases List.mem_cons.mp h with e | h
      · cases e; simp at hb
      · exact mem_lookup h

theorem cloFrom_mem {cells : List (Str × Addr)} : ∀ {names : List (Str × NameKind)} {acc : List (Str × Addr)} {n : Str} {c : Addr}, (n, c) ∈ cloFrom cells names acc → (n, c) ∈ acc ∨ ((n, .free) ∈ names ∧ c = (cells.lookup n).getD 0)
  | [], _, _, _, h => .inl h
  | (m, k) :: r, acc, n, c, h => by
    unfold cloFrom at h
    split at h
    · rename_i hk
      have hk : k = .free := by simpa using hk
      rcases cloFrom_mem h with h | ⟨h1, h2⟩
      · rcases List.mem_cons.mp h with e | h
        · cases e; exact .inr ⟨hk ▸ List.mem_cons_self, rfl⟩
        · exact .inl h
      · exact .inr ⟨List.mem_cons_of_mem _ h1, h2⟩
    · rcases cloFrom_mem h with h | ⟨h1, h2⟩
      · exact .inl h
      · exact .inr ⟨List.mem_cons_of_mem _ h1, h2⟩
theorem cloFrom_acc {cells : List (Str × Addr)} : ∀ {names : List (Str × NameKind)} {acc : List (Str × Addr)} {p : Str × Addr}, p ∈ acc → p ∈ cloFrom cells names acc
  | [], _, _, h => h
  | (m, k) :: r, acc, p, h => by
    unfold cloFrom
    split
    · exact cloFrom_acc (List.mem_cons_of_mem _ h)
    · exact cloFrom_acc h
theorem cloFrom_has {cells : List (Str × Addr)} : ∀ {names : List (Str × NameKind)} {acc : List (Str × Addr)} {n : Str}, (n, .free) ∈ names → (n, (cells.lookup n).getD 0) ∈ cloFrom cells names acc
  | (m, k) :: r, acc, n, h => by
    unfold cloFrom
    rcases List.mem_cons.mp h with e | h
    · cases e
      exact cloFrom_acc List.mem_cons_self
    · split
      · exact cloFrom_has h
      · exact cloFrom_has h

theorem cells_mem : ∀ {names : List (Str × NameKind)} {h : Heap} {acc : List (Str × Addr)} {x : Str} {c : Addr}, (x, c) ∈ cellsFrom h.objs.size names acc →
    (x, c) ∈ acc ∨ ((x, .cell) ∈ names ∧ h.objs.size ≤ c ∧ CellAt (pushCells h names) c none)
  | [], _, _, _, _, h => .inl h
  | (n, k) :: r, h, acc, x, c, hm => by
    unfold cellsFrom at hm
    unfold pushCells
    split at hm
    · rename_i hk
      rw [if_pos hk]
      have hk : k = .cell := by simpa using hk
      rw [← Heap.size_push h { cls := .type "cell", data := .cell none }] at hm
      rcases cells_mem hm with hm | ⟨h1, h2, h3⟩
      · rcases List.mem_cons.mp hm with e | hm
        · cases e
          exact .inr ⟨hk ▸ List.mem_cons_self, Nat.le_refl _, _, pushCells_keeps r _ _ _ (Heap.get?_push_size _ rfl), rfl⟩
        · exact .inl hm
      · rw [Heap.size_push] at h2
        exact .inr ⟨List.mem_cons_of_mem _ h1, Nat.le_of_succ_le h2, h3⟩
    · rename_i hk
      rw [if_neg hk]
      rcases cells_mem hm with hm | ⟨h1, h2, h3⟩
      · exact .inl hm
      · exact .inr ⟨List.mem_cons_of_mem _ h1, h2, h3⟩
theorem cells_acc : ∀ {names : List (Str × NameKind)} {n : Nat} {acc : List (Str × Addr)} {p : Str × Addr}, p ∈ acc → p ∈ cellsFrom n names acc
  | [], _, _, _, h => h
  | (m, k) :: r, n, acc, p, h => by
    unfold cellsFrom
    split
    · exact cells_acc (List.mem_cons_of_mem _ h)
    · exact cells_acc h
theorem cells_has : ∀ {names : List (Str × NameKind)} {n : Nat} {acc : List (Str × Addr)} {x : Str}, (x, .cell) ∈ names → ∃ c, (x, c) ∈ cellsFrom n names acc
  | (m, k) :: r, n, acc, x, h => by
    unfold cellsFrom
    rcases List.mem_cons.mp h with e | h
    · cases e
      exact ⟨n, cells_acc List.mem_cons_self⟩
    · split
      · exact cells_has h
      · exact cells_has h
theorem cells_inj : ∀ {names : List (Str × NameKind)} {h : Heap} {acc : List (Str × Addr)} {x y : Str} {c : Addr}, (∀ p ∈ acc, p.2 < h.objs.size) → (∀ x y c, (x, c) ∈ acc → (y, c) ∈ acc → x = y) →
    (x, c) ∈ cellsFrom h.objs.size names acc → (y, c) ∈ cellsFrom h.objs.size names acc → x = y
  | [], _, _, _, _, _, _, hi, h1, h2 => hi _ _ _ h1 h2
  | (n, k) :: r, h, acc, x, y, c, hl, hi, h1, h2 => by
    unfold cellsFrom at h1 h2
    split at h1
    · rename_i hk
      rw [if_pos hk] at h2
      rw [← Heap.size_push h { cls := .type "cell", data := .cell none }] at h1 h2
      refine cells_inj (h := h.push _) (fun p hp => ?_) (fun x y c a b => ?_) h1 h2
      · rw [Heap.size_push]
        rcases List.mem_cons.mp hp with rfl | hp
        · exact Nat.lt_succ_self _
        · exact Nat.lt_succ_of_lt (hl p hp)
      · rcases List.mem_cons.mp a with e | a <;> rcases List.mem_cons.mp b with e' | b
        · cases e; cases e'; rfl
        · cases e; exact absurd (hl _ b) (Nat.lt_irrefl _)
        · cases e'; exact absurd (hl _ a) (Nat.lt_irrefl _)
        · exact hi _ _ _ a b
    · rename_i hk
      rw [if_neg hk] at h2
      exact cells_inj hl hi h1 h2

theorem newEnv_comp {M : Model} {A : Around} {E : Value → Shared → Prop} {s : Shared} {scope : Scope} {globals : Addr} {closure : List (Str × Addr)} {qual : Str} {func : Option Addr} {code : Value} {around : Env} {builtins : Addr} {Q : Env → Shared → Prop}
    (h : Q (newEnv scope s.heap.objs.size globals (cellsFrom (s.heap.objs.size + 1) scope.names closure) qual func code (some around) builtins)
      { s with heap := pushCells (s.heap.push { cls := .type "dict", data := .dict #[] }) scope.names }) :
    wpAny M A (newFunctionEnv scope globals closure [] qual func code (some around) builtins) Q E s := by
  simp only [newFunctionEnv, Option.isSome_some, if_true]
  refine wpAny_bind (wpAny_alloc ?_)
  refine wpAny_bind (wpAny_layCells _ (fun n k c => rfl) scope.names closure _ _ ?_)
  rw [show ({ s with heap := s.heap.push { cls := .type "dict", data := .dict #[] } } : Shared).heap.objs.size = s.heap.objs.size + 1 from Heap.size_push ..]
  rw [List.forIn_nil]
  exact wpAny_bind (wpAny_pure (wpAny_pure h))

/-- every name of the written scope, in the scope that runs -/
theorem lookup_relS {sc : Scope} : ∀ {names : List (Str × NameKind)} {x : Str} {k : NameKind},
    (names.map fun (n, k) => if (k == NameKind.free && sc.kind == .function && sc.names.lookup n == some .cell) then (n, NameKind.cell) else (n, k)).lookup x = some k →
    ∃ k', names.lookup x = some k' ∧ (k = k' ∨ (k' = .free ∧ k = .cell))
  | [], _, _, h => by simp at h
  | (n, k₀) :: r, x, k, h => by
    have ih := @lookup_relS sc r x k
    have h' : List.lookup x ((if (k₀ == NameKind.free && sc.kind == .function && sc.names.lookup n == some .cell) = true then (n, NameKind.cell) else (n, k₀)) :: (r.map _)) = some k := h
    cases hx : x == n with
    | true =>
      simp only [List.lookup_cons, hx]
      by_cases hc : (k₀ == NameKind.free && sc.kind == .function && sc.names.lookup n == some .cell) = true
      · rw [if_pos hc] at h'
        simp only [List.lookup_cons, hx] at h'
        cases h'
        simp only [Bool.and_eq_true, beq_iff_eq] at hc
        exact ⟨k₀, rfl, .inr ⟨hc.1.1, rfl⟩⟩
      · rw [if_neg hc] at h'
        simp only [List.lookup_cons, hx] at h'
        cases h'
        exact ⟨_, rfl, .inl rfl⟩
    | false =>
      simp only [List.lookup_cons, hx]
      by_cases hc : (k₀ == NameKind.free && sc.kind == .function && sc.names.lookup n == some .cell) = true
      · rw [if_pos hc] at h'
        simp only [List.lookup_cons, hx] at h'
        exact ih h'
      · rw [if_neg hc] at h'
        simp only [List.lookup_cons, hx] at h'
        exact ih h'



/-- the names of a comprehension's block: its own (with their places in N), or captured -/
structure BlkOk (N : List Str) (sc scope : Scope) (own : List (Str × Nat)) : Prop where
  kind : scope.kind = .function
  uniq : ∀ y ∈ scope.names, scope.names.lookup y.1 = some y.2
  ix : ∀ p ∈ own, N[p.2]? = some p.1
  free : ∀ y ∈ scope.names, y.2 = .free → sc.names.lookup y.1 = some .cell ∨ sc.names.lookup y.1 = some .free
  own : ∀ y ∈ scope.names, y.2 = .local ∨ y.2 = .cell → y.1 ∈ own.map (·.1) ∨ y.1 ∉ N
/-- the slots of the block's own names forgotten -/
def wipe (σ : St) : List Nat → St
  | [] => σ
  | v :: vs => (wipe σ vs).set v none
theorem wipe_length (σ : St) : ∀ vs : List Nat, (wipe σ vs).length = σ.length
  | [] => rfl
  | v :: vs => by unfold wipe; rw [List.length_set, wipe_length σ vs]
theorem wipe_some {σ : St} {i : Nat} {x : V} : ∀ {vs : List Nat}, (wipe σ vs)[i]? = some (some x) → σ[i]? = some (some x) ∧ i ∉ vs
  | [], h => ⟨h, by simp⟩
  | v :: vs, h => by
    unfold wipe at h
    by_cases hi : v = i
    · subst hi
      by_cases hv : v < (wipe σ vs).length
      · rw [List.getElem?_set_self hv] at h; cases h
      · rw [List.getElem?_eq_none (by simpa using hv)] at h; cases h
    · rw [List.getElem?_set_ne hi] at h
      obtain ⟨h1, h2⟩ := wipe_some h
      exact ⟨h1, by simp only [List.mem_cons, not_or]; exact ⟨fun e => hi e.symm, h2⟩⟩

/-- the context of a block that starts at s, its iterator's objects at fp -/
abbrev Cx.blk (X : Cx) (s : Shared) (H : Hp) (scope : Scope) (cenv : Env) (fp : List Addr) : Cx := { X with s_0 := s, H_0 := H, env := cenv, outer := X.stack, ex := fp, fn := fun x => scope.names.lookup x == some .cell, pn := [], xe := fun _ _ => False }
section
variable {X : Cx} {pins : List (Addr × Obj)} {σ : St} {H : Hp} {s : Shared}
theorem block_start {scope : Scope} {own : List (Str × Nat)} {fp : List Addr} (I : Inv X pins σ H s) (ok : BlkOk X.N X.env.scope scope own) (hN : X.N.Nodup) (hfp : ∀ b ∈ fp, FpOk X pins H b ∧ b < s.heap.objs.size) :
    Inv (X.blk s H scope (compEnvC scope (cellsFrom (s.heap.objs.size + 1) scope.names (cloFrom X.env.cells scope.names [])) s.heap.objs.size X.env) fp) [] (wipe σ (own.map (·.2))) H { s with heap := pushCells (s.heap.push { cls := .type "dict", data := .dict #[] }) scope.names } := by
  have hfree : ∀ y ∈ scope.names, y.2 = .free → ∃ c, X.env.cells.lookup y.1 = some c := fun y hy e => by
    rcases ok.free y hy e with k | k
    · exact I.ok.has _ (.inl k)
    · exact I.ok.has _ (.inr k)
  generalize hcenv : compEnvC scope (cellsFrom (s.heap.objs.size + 1) scope.names (cloFrom X.env.cells scope.names [])) s.heap.objs.size X.env = cenv
  have kp : ∀ b o, s.heap.get? b = some o → (pushCells (s.heap.push { cls := .type "dict", data := .dict #[] }) scope.names).get? b = some o := fun b o e => pushCells_keeps _ _ _ _ (Heap.get?_push_of_some _ e)
  have hL : cenv.locals = s.heap.objs.size := by rw [← hcenv]; rfl
  have hcl : cenv.cells = cellsFrom (s.heap.objs.size + 1) scope.names (cloFrom X.env.cells scope.names []) := by rw [← hcenv]; rfl
  have hsc : cenv.scope = relS scope X.env.scope := by rw [← hcenv]; rfl
  rw [← Heap.size_push s.heap { cls := .type "dict", data := .dict #[] }] at hcl
  have cm : ∀ {y c}, (y, c) ∈ cloFrom X.env.cells scope.names [] → X.env.cells.lookup y = some c ∧ c < s.heap.objs.size := fun {y c} hm => by
    rcases cloFrom_mem hm with hm | ⟨h1, rfl⟩
    · cases hm
    · obtain ⟨c, hc⟩ := hfree _ h1 rfl
      rw [hc]
      obtain ⟨w, z⟩ := I.cell _ _ hc
      exact ⟨rfl, z.lt⟩
  have mem : ∀ {y c}, cenv.cells.lookup y = some c → (X.env.cells.lookup y = some c ∧ c < s.heap.objs.size) ∨ (s.heap.objs.size + 1 ≤ c ∧ CellAt (pushCells (s.heap.push { cls := .type "dict", data := .dict #[] }) scope.names) c none) := fun {y c} e => by
    rw [hcl] at e
    rcases cells_mem (PySem.mem_of_lookup e) with hm | ⟨_, h2, h3⟩
    · exact .inl (cm hm)
    · rw [Heap.size_push] at h2; exact .inr ⟨h2, h3⟩
  have look : ∀ {y}, scope.names.lookup y = some .free → ∃ c, cenv.cells.lookup y = some c ∧ X.env.cells.lookup y = some c := fun {y} hl => by
    have hy : (y, NameKind.free) ∈ scope.names := PySem.mem_of_lookup hl
    obtain ⟨c', e'⟩ := mem_lookup (cells_acc (names := scope.names) (n := (s.heap.push { cls := .type "dict", data := .dict #[] }).objs.size) (cloFrom_has (cells := X.env.cells) (acc := []) hy))
    rw [← hcl] at e'
    refine ⟨c', e', ?_⟩
    rw [hcl] at e'
    rcases cells_mem (PySem.mem_of_lookup e') with hm | ⟨h1, _, _⟩
    · exact (cm hm).1
    · have := ok.uniq _ h1
      rw [hl] at this; cases this
  have okB : (X.blk s H scope cenv fp).Ok := by
    refine ⟨I.ok.mod, by show cenv.scope.kind = _; rw [hsc]; exact ok.kind, by show cenv.globals = _; rw [← hcenv]; exact I.ok.glob, by show cenv.builtins = _; rw [← hcenv]; exact I.ok.blt, by show s.heap.objs.size ≤ cenv.locals; rw [hL]; exact Nat.le_refl _,
      fun y z c e1 e2 => ?_, fun y hy => ?_, fun y c z e => ?_, I.ok.hd, I.ok.frames, .inl rfl, fun b hb => ⟨?_, fun y c e z => ?_⟩, I.bs, Nat.le_trans I.ok.bsz I.sz, fun b o e hb => ?_, fun b hb z => ?_, I.stack, I.stkFree⟩
    · have e1 : cenv.cells.lookup y = some c := e1
      have e2 : cenv.cells.lookup z = some c := e2
      rw [hcl] at e1 e2
      refine cells_inj (fun p hp => ?_) (fun y z c a b => I.ok.inj y z c (cm a).1 (cm b).1) (PySem.mem_of_lookup e1) (PySem.mem_of_lookup e2)
      rw [Heap.size_push]
      exact Nat.lt_succ_of_lt (cm (y := p.1) (c := p.2) hp).2
    · show ∃ c, cenv.cells.lookup y = some c
      have key : ∀ k, cenv.kindOf y = some k → (k = .cell ∨ k = .free) → ∃ c, cenv.cells.lookup y = some c := fun k hk hk' => by
        unfold Env.kindOf at hk
        rw [hsc] at hk
        obtain ⟨k', e, r⟩ := lookup_relS hk
        have : k' = .cell ∨ k' = .free := by
          rcases r with rfl | ⟨rfl, _⟩
          · exact hk'
          · exact .inr rfl
        rcases this with rfl | rfl
        · obtain ⟨c, hm⟩ := cells_has (n := (s.heap.push { cls := .type "dict", data := .dict #[] }).objs.size) (acc := cloFrom X.env.cells scope.names []) (PySem.mem_of_lookup e)
          obtain ⟨c', e'⟩ := mem_lookup hm
          exact ⟨c', by rw [hcl]; exact e'⟩
        · obtain ⟨c, h1, _⟩ := look e
          exact ⟨c, h1⟩
      rcases hy with hy | hy
      · exact key _ hy (.inl rfl)
      · exact key _ hy (.inr rfl)
    · have z : (scope.names.lookup y == some NameKind.cell) = true := z
      have z : scope.names.lookup y = some .cell := by simpa using z
      have e : cenv.cells.lookup y = some c := e
      rw [hcl] at e
      rcases cells_mem (PySem.mem_of_lookup e) with hm | ⟨_, h2, _⟩
      · rcases cloFrom_mem hm with hm | ⟨h1, _⟩
        · cases hm
        · have q := ok.uniq _ h1
          rw [z] at q; cases q
      · rw [Heap.size_push] at h2
        exact Nat.le_of_succ_le h2
    · show b ≠ cenv.locals
      rw [hL]; exact Nat.ne_of_lt (hfp b hb).2
    · have e : cenv.cells.lookup y = some c := e
      rcases mem e with ⟨h1, _⟩ | ⟨h1, _⟩
      · exact (hfp b hb).1.2.2.2.2.1 y c h1 z
      · have h2 : s.heap.objs.size + 1 ≤ b := by rw [← z]; exact h1
        exact absurd (Nat.lt_of_lt_of_le (hfp b hb).2 (Nat.le_of_succ_le h2)) (Nat.lt_irrefl _)
    · rcases (hfp b hb).1.2.2.2.1 with z | z
      · exact I.ok.noex b o e z
      · exact absurd (Nat.lt_of_lt_of_le (Heap.lt_size e) (Nat.le_trans I.ok.bsz z)) (Nat.lt_irrefl _)
    · rcases List.mem_cons.mp (I.stkSub b z) with z | z
      · exact (hfp b hb).1.2.1 z
      · exact (hfp b hb).1.2.2.1 z
  refine ⟨okB, rfl, I.bare, Un.kept kp, ⟨fun _ => none, ?_, fun i y av e1 e2 e3 => ?_⟩, fun y c e => ?_, ?_, fun y c e => ?_, fun p hp => ?_, I.hok.kept kp, by rw [wipe_length]; exact I.len⟩
  · show Heap.Ns _ cenv.locals _
    rw [hL]
    exact Heap.Ns.keeps (Heap.Ns.new ..) fun b o e => pushCells_keeps _ _ _ _ e
  · obtain ⟨e2, hne⟩ := wipe_some e2
    have hfr : scope.names.lookup y = some .free ∧ (cenv.kindOf y = some .cell ∨ cenv.kindOf y = some .free) := by
      have key : ∀ k, cenv.scope.names.lookup y = some k → k = .local ∨ k = .cell ∨ k = .free → scope.names.lookup y = some .free ∧ (cenv.kindOf y = some .cell ∨ cenv.kindOf y = some .free) := fun k hk hk' => by
        have hk0 := hk
        rw [hsc] at hk
        obtain ⟨k', e, r⟩ := lookup_relS hk
        have no : ¬ (k' = .local ∨ k' = .cell) := fun hh => by
          rcases ok.own _ (PySem.mem_of_lookup e) hh with e' | e'
          · obtain ⟨p, hp, hpy⟩ := List.mem_map.mp e'
            have e3 := ok.ix p hp
            have : p.1 = y := hpy
            rw [this] at e3
            exact hne (List.mem_map.mpr ⟨p, hp, nodup_ix hN e3 e1⟩)
          · exact e' (List.mem_of_getElem? e1)
        rcases r with rfl | ⟨rfl, rfl⟩
        · rcases hk' with rfl | rfl | rfl
          · exact absurd (.inl rfl) no
          · exact absurd (.inr rfl) no
          · exact ⟨e, .inr hk0⟩
        · exact ⟨e, .inl hk0⟩
      have e3 : Vis cenv.scope y := e3
      rcases e3 with e3 | e3 | e3
      · exact key _ e3 (.inl rfl)
      · exact key _ e3 (.inr (.inl rfl))
      · exact key _ e3 (.inr (.inr rfl))
    obtain ⟨m, hn, hl⟩ := I.loc
    have hvis : Vis X.env.scope y := (ok.free _ (PySem.mem_of_lookup hfr.1) rfl).elim (fun k => .inr (.inl k)) (fun k => .inr (.inr k))
    obtain ⟨w, r, q⟩ := hl i y av e1 e2 hvis
    refine ⟨w, r, .inr ⟨hfr.2, ?_⟩⟩
    obtain ⟨c, h1, h2⟩ := look hfr.1
    rcases q with ⟨k, _⟩ | ⟨_, c', e', z⟩
    · have k : X.env.scope.names.lookup y = some .local := k
      rcases ok.free _ (PySem.mem_of_lookup hfr.1) rfl with k' | k' <;> rw [show X.env.scope.names.lookup y = _ from k'] at k <;> cases k
    · rw [h2] at e'; cases e'
      exact ⟨c, h1, z.keeps kp⟩
  · have e : cenv.cells.lookup y = some c := e
    rcases mem e with ⟨h1, _⟩ | ⟨_, z⟩
    · obtain ⟨w, z⟩ := I.cell y c h1
      exact ⟨w, z.keeps kp⟩
    · exact ⟨_, z⟩
  · show H cenv.locals = none
    rw [hL]; exact I.hok.fresh (Nat.le_refl _)
  · have e : cenv.cells.lookup y = some c := e
    rcases mem e with ⟨h1, _⟩ | ⟨h1, _⟩
    · exact I.freeC y c h1
    · exact I.hok.fresh (Nat.le_of_succ_le h1)
  · exact absurd (show p ∈ ([] : List (Addr × Obj)) ++ [] from hp) (by simp)

/-- an item appended to a tracked list -/
theorem app_ok {E : Value → Shared → Prop} {D : Addr} {xs : List V} {y : V} {v : Value} {Q : Value → Shared → Prop} (I : Inv X pins σ H s) (hD : H D = some (.lst xs)) (hz : xs.length < sizeLine) (r : RelV y v)
    (h : ∀ s', Inv X pins σ (upd H D (.lst (xs ++ [y]))) s' → Q .none s') : wpAny (model X.prog X.w) X.A (call (.builtin "list.append") [.ref D, v]) Q E s := by
  obtain ⟨hz', its, n, ri, e⟩ := I.hok D _ hD
  have hl := ri.length
  refine append_at (hsz := by rw [List.size_toArray]; omega) e fun h' sb ho' => ?_
  refine h { s with heap := h' } (I.write (t' := s.toks) (by rw [hD]; trivial) (.inl rfl) (fun b u hb q => (sb.2 b hb).trans q) ⟨_, ho'⟩ ⟨by rw [List.length_append]; exact hz, its ++ [v], n + 1, ri.append (.cons r .nil), ?_⟩)
  rw [ho']
  simp

/-- a clause's tests -/
def PTs (X : Cx) (ifs : List Expr) (t : TT) : Prop :=
  ∀ (pins : List (Addr × Obj)) (s : Shared) (σ : St) (H : Hp) (Q : Bool → Hp → Prop), Inv X pins σ H s → t σ H Q →
    wpAny (model X.prog X.w) X.A (forIn ifs true fun c r => if r = true then do let ok ← isTrue c X.env (eval c X.env); pure (ForInStep.yield ok) else pure (ForInStep.yield r)) (TP X pins σ Q) X.xe s
def tYes : TT := fun _ H Q => Q true H
theorem pts_nil : PTs X [] tYes := fun _ _ _ H _ I h => wpAny_tests_nil ⟨H, I, h⟩
theorem pts_one {c : Expr} {t : TT} (h : PT X c t) : PTs X [c] t := fun pins s σ H Q I hw => wpAny_tests_one (h pins s σ H Q I hw)
end

theorem thnF {α : Type} {t : Sem α} {Q Q' : α → Shared → Prop} {M : Model} {A : Around} {E : Value → Shared → Prop} {s : Shared} (h : wpAny M A t Q (fun _ _ => False) s) (hQ : ∀ a s, Q a s → Q' a s) : wpAny M A t Q' E s := wpAny_mono h hQ fun _ _ z => False.elim z

/-- the loop of a list comprehension's block, the target of any form (codeAny_compLoop_tests asks a target that no tuple goes to; statement and proof follow it, PyProof/CompMap.lean:41-61, with the step letOwnedTupleGo kept) -/
theorem compLoop_any {prog : Program} {w : World} {A : Around} {R : Result → Shared → Prop} {s : Shared} {elt target iter : Expr} {ifs : List Expr} {scope : Scope} {pos : Pos} {it acc : Value} {env : Env} (I : Nat → Shared → Prop)
    (turn : ∀ n s, I n s → wpAny (model prog w) A (pyNext it) (fun r s₁ => match r with
      | none => R (.ok .next) s₁
      | some v => wpAny (model prog w) A (letOwnedTupleGo target it v) (fun _ s₁' => wpAny (model prog w) A (assign target env v) (fun _ s₂ =>
          wpAny (model prog w) A (forIn ifs true fun c r => if r = true then do let ok ← isTrue c env (eval c env); pure (ForInStep.yield ok) else pure (ForInStep.yield r)) (fun ok s₃ =>
            if ok = true then wpAny (model prog w) A (eval elt env) (fun x s₄ =>
              wpAny (model prog w) A (call (.builtin "list.append") [acc, x]) (fun _ s₅ => ∃ m, m < n ∧ I m s₅) (notedBy (model prog w) A env fun e s' => R (.error e) s') s₄) (notedBy (model prog w) A env fun e s' => R (.error e) s') s₃
            else ∃ m, m < n ∧ I m s₃) (notedBy (model prog w) A env fun e s' => R (.error e) s') s₂) (notedBy (model prog w) A env fun e s' => R (.error e) s') s₁') (notedBy (model prog w) A env fun e s' => R (.error e) s') s₁) (notedBy (model prog w) A env fun e s' => R (.error e) s') s)
    (n : Nat) (h : I n s) :
    codeAny (model prog w) A (.compLoop (.ListComp elt [⟨target, iter, ifs, 0⟩] scope pos) 0 it acc env) R s := by
  refine codeAny_loop rfl I (fun n s hI => ?_) n h
  show wpAny _ A ((compTurn (.ListComp elt [⟨target, iter, ifs, 0⟩] scope pos) 0 it acc env).onRaise (fun x => do noteFrame x env; theTreesLotGoes x)) _ _ s
  refine wpAny_noted ?_
  rw [compTurn_list]
  refine wpAny_bind (wpAny_standAt (wpAny_bind (wpAny_mono (turn n s hI) (fun r s₁ h₁ => ?_) fun _ _ h' => h')))
  cases r with
  | none => exact wpAny_pure h₁
  | some v =>
    refine wpAny_bind (wpAny_mono h₁ (fun _ s₁' h₁' => ?_) fun _ _ h' => h')
    refine wpAny_bind (wpAny_mono h₁' (fun _ s₂ h₂ => wpAny_bind (wpAny_mono h₂ (fun ok s₃ h₃ => ?_) fun _ _ h' => h')) fun _ _ h' => h')
    cases ok with
    | false => exact wpAny_pure ⟨rfl, h₃⟩
    | true =>
      exact wpAny_bind (wpAny_bind (wpAny_mono h₃ (fun x s₄ h₄ => wpAny_bind (wpAny_mono h₄ (fun _ s₅ h₅ => wpAny_pure (wpAny_pure ⟨rfl, h₅⟩)) fun _ _ h' => h')) fun _ _ h' => h'))

section
variable {X : Cx}
/-- [elt for target in iter if ..]: D the new list; W by the turn and a measure, Nx what a turn is to reach -/
def tLc (wi : TI) (g : TG) (tt : TT) (te : TE) (vs : List Nat) : TE := fun σ H Q => wi σ H fun J H1 => ∀ D, H1 D = none → ∃ W : Nat → Nat → Hp → Prop, (∃ m, W 0 m (upd H1 D (.lst []))) ∧ ∀ i m H, W i m H →
  (J.stop i H ∧ Q (.ref D) H) ∨ (J.go i H ∧ ∃ Nx : Hp → Prop, (∀ H', Nx H' → ∃ m', m' < m ∧ W (i + 1) m' H') ∧ ∀ x H', J.yld i H x H' → g x (wipe σ vs) H' fun σ2 H2 => wipe σ2 vs = wipe σ vs ∧ tt σ2 H2 fun b H3 =>
    if b = true then te σ2 H3 fun y H4 => ∃ acc, H4 D = some (.lst acc) ∧ acc.length < sizeLine ∧ Nx (upd H4 D (.lst (acc ++ [y]))) else Nx H3)
theorem lc_core {pins : List (Addr × Obj)} {s : Shared} {σ : St} {H : Hp} {Q : VK} {elt tg iter : Expr} {ifs : List Expr} {scope : Scope} {own : List (Str × Nat)} {pos pos' : Pos} {wi : TI} {g : TG} {tt : TT} {te : TE} {use : Option (Value → Sem Unit)} {Qf : Value → Shared → Prop}
    (hc : X.calm = true) (hN : X.N.Nodup) (I : Inv X pins σ H s) (hi : PI X tg iter wi) (ok : BlkOk X.N X.env.scope scope own)
    (hg : ∀ (s : Shared) (H : Hp) (C : Addr) (cl : List (Str × Addr)) (fp : List Addr), PG (X.blk s H scope (compEnvC scope cl C X.env) fp) tg g) (ht : ∀ (s : Shared) (H : Hp) (C : Addr) (cl : List (Str × Addr)) (fp : List Addr), PTs (X.blk s H scope (compEnvC scope cl C X.env) fp) ifs tt)
    (he : ∀ (s : Shared) (H : Hp) (C : Addr) (cl : List (Str × Addr)) (fp : List Addr), PE (X.blk s H scope (compEnvC scope cl C X.env) fp) elt te) (hs : ∀ x, foldedSetIterable iter X.env x = pure x)
    (h : tLc wi g tt te (own.map (·.2)) σ H Q)
    (hRR : ∀ D C s' m H', Inv X pins σ H' s' → Q (.ref D) H' → s'.heap.Ns C m → FpOk X pins H' C → compPost (model X.prog X.w) X.A X.xe use Qf (.ref D) C (.ok .next) s') :
    wpAny (model X.prog X.w) X.A (comprehension (.ListComp elt [⟨tg, iter, ifs, 0⟩] scope pos) scope X.env pos' (newList []) false (eval iter X.env) use) Qf X.xe s := by
  have hfree : ∀ y ∈ scope.names, y.2 = .free → ∃ c, X.env.cells.lookup y.1 = some c := fun y hy e => by
    rcases ok.free y hy e with k | k
    · exact I.ok.has _ (.inl k)
    · exact I.ok.has _ (.inr k)
  refine wpAny_comprehension_free (use := use) rfl hs (closure_ok hfree) ok.kind (fun y hy e => by rw [ok.uniq y hy, e])
    (thn (hi pins s σ H _ I h) fun xv s1 hx => thn hx fun itv s2 h2 => ?_)
  obtain ⟨it, fp, tn, J, H2, e, I2, T, st2, f2, q⟩ := h2
  subst e
  refine wpAny_newObj_type (newEnv_comp ?_) (by show 0 ≤ sizeLine; decide)
  generalize hD : s2.heap.objs.size = D
  have hDn : H2 D = none := I2.hok.fresh (Nat.le_of_eq hD)
  obtain ⟨W, ⟨m0, w0⟩, turn⟩ := q D hDn
  -- the new list
  generalize hs3 : ({ s2 with heap := s2.heap.push { cls := .type "list", data := .seq ([] : List Value).toArray } } : Shared) = s3
  have I3 : Inv X pins σ (upd H2 D (.lst [])) s3 := by
    rw [← hs3]
    refine I2.laid (t' := s2.toks) (fun b o e => Heap.get?_push_of_some _ e) (Nat.le_of_eq hD) ⟨Nat.zero_le _, [], 0, .nil, ?_⟩
    rw [← hD]
    exact Heap.get?_push_size _ rfl
  have h3 : s3.heap = s2.heap.push { cls := .type "list", data := .seq ([] : List Value).toArray } := by rw [← hs3]
  have sz : ∀ b ∈ fp, b < s2.heap.objs.size := fun b hb => by
    obtain ⟨o, e, _⟩ := T.obj _ _ st2 b hb
    exact Heap.lt_size e
  have f3 : ∀ b ∈ fp, FpOk X pins (upd H2 D (.lst [])) b ∧ b < s3.heap.objs.size := fun b hb => by
    have hlt := sz b hb
    refine ⟨⟨?_, (f2 b hb).2⟩, by rw [h3, Heap.size_push]; exact Nat.lt_succ_of_lt hlt⟩
    rw [upd_ne (by rw [← hD]; exact Nat.ne_of_lt hlt)]
    exact (f2 b hb).1
  have st3 : tn 0 s3.heap := T.keep _ _ _ st2 fun b _ o e => by rw [h3]; exact Heap.get?_push_of_some _ e
  have I4 := block_start I3 ok hN f3
  have pg := hg s3 (upd H2 D (.lst [])) s3.heap.objs.size (cellsFrom (s3.heap.objs.size + 1) scope.names (cloFrom X.env.cells scope.names [])) fp
  have pt := ht s3 (upd H2 D (.lst [])) s3.heap.objs.size (cellsFrom (s3.heap.objs.size + 1) scope.names (cloFrom X.env.cells scope.names [])) fp
  have pe := he s3 (upd H2 D (.lst [])) s3.heap.objs.size (cellsFrom (s3.heap.objs.size + 1) scope.names (cloFrom X.env.cells scope.names [])) fp
  show codeAny _ _ (.compStart (.ListComp elt [⟨tg, iter, ifs, 0⟩] scope pos) 0 (.ref it) (.ref D) (compEnvC scope (cellsFrom (s3.heap.objs.size + 1) scope.names (cloFrom X.env.cells scope.names [])) s3.heap.objs.size X.env)) (compPost (model X.prog X.w) X.A X.xe use Qf (.ref D) s3.heap.objs.size) { s3 with heap := pushCells (s3.heap.push { cls := .type "dict", data := .dict #[] }) scope.names }
  have nfp : ∀ b ∈ fp, (upd H2 D (.lst [])) b = none := fun b hb => (f3 b hb).1.1
  generalize hce : compEnvC scope (cellsFrom (s3.heap.objs.size + 1) scope.names (cloFrom X.env.cells scope.names [])) s3.heap.objs.size X.env = ce at I4 pg pt pe ⊢
  have cL : ce.locals = s3.heap.objs.size := by subst hce; rfl
  generalize hH3 : upd H2 D (.lst []) = H3 at I3 I4 pg pt pe w0 nfp f3
  generalize hs4 : ({ s3 with heap := pushCells (s3.heap.push { cls := .type "dict", data := .dict #[] }) scope.names } : Shared) = s4 at I4 ⊢
  have st4 : tn 0 s4.heap := T.keep _ _ _ st3 fun b _ o e => by rw [← hs4]; exact pushCells_keeps _ _ _ _ (Heap.get?_push_of_some _ e)
  have stat : ∀ {σ' : St} {H' : Hp} {s' : Shared}, Inv (X.blk s3 H3 scope ce fp) [] σ' H' s' → (∀ b ∈ fp, H' b = none) → ∀ b ∈ fp, FpOk (X.blk s3 H3 scope ce fp) [] H' b := fun {σ' H' s'} I' hn b hb =>
    ⟨hn b hb, (I'.ok.exf b hb).1, I'.ok.exfs b hb, .inl hb, fun x c e => (I'.ok.exf b hb).2 x c e, fun p hp => absurd (show p ∈ ([] : List (Addr × Obj)) ++ [] from hp) (by simp)⟩
  have loop : codeAny (model X.prog X.w) X.A (.compLoop (.ListComp elt [⟨tg, iter, ifs, 0⟩] scope pos) 0 (.ref it) (.ref D) ce) (compPost (model X.prog X.w) X.A X.xe use Qf (.ref D) s3.heap.objs.size) s4 := by
    refine compLoop_any (fun n s' => ∃ i H', Inv (X.blk s3 H3 scope ce fp) [] (wipe σ (own.map (·.2))) H' s' ∧ tn i s'.heap ∧ (∀ b ∈ fp, H' b = none) ∧ W i n H') ?_ m0 ⟨0, H3, I4, st4, nfp, w0⟩
    rintro n s5 ⟨i, H5, I5, st5, n5, w5⟩
    rcases turn i n H5 w5 with ⟨stop, qq⟩ | ⟨go, Nx, hNx, step⟩
    · have td := T.done (X.blk s3 H3 scope ce fp) rfl rfl rfl hc i [] s5 _ H5 (fun _ _ => False) I5 (stat I5 n5) st5 stop
      refine thnF td fun r s6 ⟨hr, I6⟩ => ?_
      subst hr
      -- back in the def's context
      have I7 : Inv X pins σ H5 s6 := I3.call' (ch := fp) I6.os I6.base I6.hok I6.bare fun b hb => ⟨(f3 b hb).1.2.2.2.1, (f3 b hb).1.2.1, (f3 b hb).1.2.2.2.2.1, (f3 b hb).1.2.2.2.2.2⟩
      have nC : H5 s3.heap.objs.size = none := by
        have z : H5 ce.locals = none := I6.free
        rw [cL] at z
        exact z
      obtain ⟨m, hn, _⟩ := I6.loc
      have hn : s6.heap.Ns ce.locals m := hn
      rw [cL] at hn
      exact hRR D s3.heap.objs.size s6 m H5 I7 qq hn (I3.fpOk (Nat.le_refl _) nC)
    · have ti := T.item (X.blk s3 H3 scope ce fp) rfl rfl rfl hc i [] s5 _ H5 (fun _ _ => False) I5 (stat I5 n5) st5 go
      refine thnF ti fun r s6 ⟨u, hr, h6⟩ => ?_
      subst hr
      refine thnF h6 fun _ s7 ⟨x, H7, I7, r7, y7, st7, n7⟩ => ?_
      have I7' := I7.pinned (stat I7 n7) (T.obj _ _ st7)
      refine thnF (pg _ s7 _ H7 x u _ I7' r7 (step x H7 y7)) fun _ s8 ⟨σ8, H8, I8, hw8, q8⟩ => ?_
      refine thnF (pt _ s8 σ8 H8 _ I8 q8) fun b s9 ⟨H9, I9, q9⟩ => ?_
      -- the turn's end
      have fin : ∀ {s' : Shared} {H' : Hp}, Inv (X.blk s3 H3 scope ce fp) ([] ++ pinsAt fp s7.heap) σ8 H' s' → Nx H' → ∃ m, m < n ∧ ∃ i H', Inv (X.blk s3 H3 scope ce fp) [] (wipe σ (own.map (·.2))) H' s' ∧ tn i s'.heap ∧ (∀ b ∈ fp, H' b = none) ∧ W i m H' := fun {s' H'} I' nx => by
        obtain ⟨m', hm, w'⟩ := hNx H' nx
        have pin' : ∀ b ∈ fp, ∀ o, s7.heap.get? b = some o → s'.heap.get? b = some o ∧ H' b = none := fun b hb o e =>
          let z := I'.pin (b, o) (List.mem_append_right _ (List.mem_append_right _ (mem_pinsAt hb e)))
          ⟨z.1, z.2.1⟩
        have hl : (wipe σ (own.map (·.2))).length = σ8.length := by rw [← hw8, wipe_length]
        refine ⟨m', hm, i + 1, H', (I'.unpinned (pins := [])).weak hl (fun j v e => ?_), T.keep _ _ _ st7 fun b hb o e => (pin' b hb o e).1, fun b hb => ?_, w'⟩
        · rw [← hw8] at e
          exact (wipe_some e).1
        · obtain ⟨o, e, _⟩ := T.obj _ _ st7 b hb
          exact (pin' b hb o e).2
      cases b with
      | false =>
        simp only [Bool.false_eq_true, if_false] at q9 ⊢
        exact fin I9 q9
      | true =>
        simp only [if_true] at q9 ⊢
        refine thnF (pe _ s9 σ8 H9 _ I9 q9) fun z s10 ⟨yv, H10, I10, r10, acc, hD10, hz10, nx⟩ => ?_
        exact app_ok (X := X.blk s3 H3 scope ce fp) I10 hD10 hz10 r10 fun s11 I11 => fin I11 nx
  exact codeAny_compStart_list loop (T.self X.A 0 _ _ _ st4 loop)
/-- as a value -/
theorem pe_lc {elt tg iter : Expr} {ifs : List Expr} {scope : Scope} {own : List (Str × Nat)} {pos : Pos} {wi : TI} {g : TG} {tt : TT} {te : TE} (hc : X.calm = true) (hN : X.N.Nodup) (hi : PI X tg iter wi) (ok : BlkOk X.N X.env.scope scope own)
    (hg : ∀ (s : Shared) (H : Hp) (C : Addr) (cl : List (Str × Addr)) (fp : List Addr), PG (X.blk s H scope (compEnvC scope cl C X.env) fp) tg g) (ht : ∀ (s : Shared) (H : Hp) (C : Addr) (cl : List (Str × Addr)) (fp : List Addr), PTs (X.blk s H scope (compEnvC scope cl C X.env) fp) ifs tt)
    (he : ∀ (s : Shared) (H : Hp) (C : Addr) (cl : List (Str × Addr)) (fp : List Addr), PE (X.blk s H scope (compEnvC scope cl C X.env) fp) elt te) (hs : ∀ x, foldedSetIterable iter X.env x = pure x := by intro _; rfl) :
    PE X (.ListComp elt [⟨tg, iter, ifs, 0⟩] scope pos) (tLc wi g tt te (own.map (·.2))) := by
  intro pins s σ H Q I h
  rw [eval_ListComp]
  refine lc_core hc hN I hi ok hg ht he hs h fun D C s' m H' I' q hn f => ⟨m, hn, fun h'' sb => ?_⟩
  obtain ⟨f0, f1, f2, f3, f4, f5⟩ := f
  exact ⟨.ref D, H', I'.turned (t' := s'.toks) (fun b o hb e => (sb.2 b hb).trans e) f0 f1 f3 f4 f5, rfl, q⟩
/-- name = [..] on one line, the name a local -/
theorem ps_setLc {i : Nat} {y : Str} {py : Pos} {elt tg iter : Expr} {ifs : List Expr} {scope : Scope} {own : List (Str × Nat)} {pos spos : Pos} {wi : TI} {g : TG} {tt : TT} {te : TE} (hc : X.calm = true) (hN : X.N.Nodup) (hy : X.N[i]? = some y) (hyl : X.env.scope.names.lookup y = some .local)
    (hsw : swapsWith (.ListComp elt [⟨tg, iter, ifs, 0⟩] scope pos) (some (.Name y py)) spos.line X.env = pure true) (hi : PI X tg iter wi) (ok : BlkOk X.N X.env.scope scope own)
    (hg : ∀ (s : Shared) (H : Hp) (C : Addr) (cl : List (Str × Addr)) (fp : List Addr), PG (X.blk s H scope (compEnvC scope cl C X.env) fp) tg g) (ht : ∀ (s : Shared) (H : Hp) (C : Addr) (cl : List (Str × Addr)) (fp : List Addr), PTs (X.blk s H scope (compEnvC scope cl C X.env) fp) ifs tt)
    (he : ∀ (s : Shared) (H : Hp) (C : Addr) (cl : List (Str × Addr)) (fp : List Addr), PE (X.blk s H scope (compEnvC scope cl C X.env) fp) elt te) (hs : ∀ x, foldedSetIterable iter X.env x = pure x := by intro _; rfl) :
    PS X (.Assign [.Name y py] (.ListComp elt [⟨tg, iter, ifs, 0⟩] scope pos) spos) (tAsg (tLc wi g tt te (own.map (·.2))) (gName i)) := by
  intro pins s σ H D I h
  rw [exec_Assign_Name_used _ _ _ _ hsw]
  refine wpAny_bind (wpAny_standAt (wpAny_bind ?_))
  show wpAny _ X.A (do let _ ← comprehension (.ListComp elt [⟨tg, iter, ifs, 0⟩] scope pos) scope X.env (firstIterPos [⟨tg, iter, ifs, 0⟩] pos) (newList []) false (eval iter X.env) (some (assign (.Name y py) X.env))) _ _ s
  have h : tLc wi g tt te (own.map (·.2)) σ H (fun x H1 => gName i x σ H1 D.nx) := h
  refine wpAny_bind (thn (lc_core (Qf := fun _ s' => SP X pins D .next s') hc hN I hi ok hg ht he hs h fun L C s' m H' I' q hn f => ?_) fun _ s' hq => wpAny_pure (wpAny_pure hq))
  show wpAny _ _ (assign (.Name y py) X.env (.ref L)) _ _ _
  refine wpAny_assign_Name (store_ok2 (v := V.ref L) I' hN hy (.inl hyl) rfl (fun s2 I2 ⟨a, sb, ha⟩ => ?_) (.inr hyl))
  obtain ⟨f0, f1, f2, f3, f4, f5⟩ := f
  have haC : C ≠ a := by
    rcases ha with z | z
    · rw [z]; exact f1
    · exact fun e => f4 y a z e.symm
  refine ⟨m, hn.sameBut sb haC, fun h3 sb3 => ?_⟩
  exact ⟨_, H', I2.turned (t' := s2.toks) (fun b o hb e => (sb3.2 b hb).trans e) f0 f1 f3 f4 f5, q⟩
theorem sw_true {elt : Expr} {gs : List Comprehension} {scope : Scope} {pos py : Pos} {y : Str} {l : Nat} {env : Env} (hk : env.scope.kind = .function) (hy : env.scope.names.lookup y = some .local) (hl : (py.line == pos.line) = true)
    (ha : (scope.names.any fun (n, k) => n == y && (k == .local || k == .cell)) = false) : swapsWith (.ListComp elt gs scope pos) (some (.Name y py)) l env = pure true := by
  have ky : env.kindOf y = some .local := hy
  have hb : env.blockKind = .function := by unfold Env.blockKind; rw [hk]; rfl
  unfold swapsWith
  simp only [hb, ky, ha, Expr.pos, hl]
  rfl
end

/-! ### the forms one uses -/
/-- over a range: Pv by the turn and the heap (the new list at D within) -/
theorem lc_range {lo : Int} {n : Nat} {g : TG} {tt : TT} {te : TE} {vs : List Nat} {σ : St} {H1 : Hp} {D : Addr} {Qd : Hp → Prop} (Pv : Nat → Hp → Prop) (h0 : Pv 0 (upd H1 D (.lst [])))
    (hs : ∀ i H, i < n → Pv i H → g (.int (lo + i)) (wipe σ vs) H fun σ2 H2 => wipe σ2 vs = wipe σ vs ∧ tt σ2 H2 fun b H3 =>
      if b = true then te σ2 H3 fun y H4 => ∃ acc, H4 D = some (.lst acc) ∧ acc.length < sizeLine ∧ Pv (i + 1) (upd H4 D (.lst (acc ++ [y]))) else Pv (i + 1) H3) (hd : ∀ H, Pv n H → Qd H) :
    ∃ W : Nat → Nat → Hp → Prop, (∃ m, W 0 m (upd H1 D (.lst []))) ∧ ∀ i m H, W i m H →
      ((Itr lo n).stop i H ∧ Qd H) ∨ ((Itr lo n).go i H ∧ ∃ Nx : Hp → Prop, (∀ H', Nx H' → ∃ m', m' < m ∧ W (i + 1) m' H') ∧ ∀ x H', (Itr lo n).yld i H x H' → g x (wipe σ vs) H' fun σ2 H2 => wipe σ2 vs = wipe σ vs ∧ tt σ2 H2 fun b H3 =>
        if b = true then te σ2 H3 fun y H4 => ∃ acc, H4 D = some (.lst acc) ∧ acc.length < sizeLine ∧ Nx (upd H4 D (.lst (acc ++ [y]))) else Nx H3) := by
  refine ⟨fun i m H => m = n - i ∧ i ≤ n ∧ Pv i H, ⟨n, by simp, Nat.zero_le _, h0⟩, ?_⟩
  rintro i m H ⟨rfl, hi, p⟩
  by_cases hlt : i < n
  · refine .inr ⟨hlt, Pv (i + 1), fun H' p' => ⟨n - (i + 1), by omega, rfl, hlt, p'⟩, fun x H' y => ?_⟩
    obtain ⟨e, y⟩ := y
    subst e y
    exact hs i _ hlt p
  · have e : i = n := by omega
    subst e
    exact .inl ⟨Nat.le_refl _, hd H p⟩
/-- over a list that the block leaves as it is -/
theorem lc_list {K : PySem.W.Frag} {a : Addr} {xs : List V} {g : TG} {tt : TT} {te : TE} {vs : List Nat} {σ : St} {H1 : Hp} {D : Addr} {Qd : Hp → Prop} (Pv : Nat → Hp → Prop) (h0 : Pv 0 (upd H1 D (.lst []))) (hl : ∀ i H, i ≤ xs.length → Pv i H → SqL K H a xs)
    (hs : ∀ i x H, xs[i]? = some x → Pv i H → g x (wipe σ vs) H fun σ2 H2 => wipe σ2 vs = wipe σ vs ∧ tt σ2 H2 fun b H3 =>
      if b = true then te σ2 H3 fun y H4 => ∃ acc, H4 D = some (.lst acc) ∧ acc.length < sizeLine ∧ Pv (i + 1) (upd H4 D (.lst (acc ++ [y]))) else Pv (i + 1) H3) (hd : ∀ H, Pv xs.length H → Qd H) :
    ∃ W : Nat → Nat → Hp → Prop, (∃ m, W 0 m (upd H1 D (.lst []))) ∧ ∀ i m H, W i m H →
      ((Itl K a).stop i H ∧ Qd H) ∨ ((Itl K a).go i H ∧ ∃ Nx : Hp → Prop, (∀ H', Nx H' → ∃ m', m' < m ∧ W (i + 1) m' H') ∧ ∀ x H', (Itl K a).yld i H x H' → g x (wipe σ vs) H' fun σ2 H2 => wipe σ2 vs = wipe σ vs ∧ tt σ2 H2 fun b H3 =>
        if b = true then te σ2 H3 fun y H4 => ∃ acc, H4 D = some (.lst acc) ∧ acc.length < sizeLine ∧ Nx (upd H4 D (.lst (acc ++ [y]))) else Nx H3) := by
  refine ⟨fun i m H => m = xs.length - i ∧ i ≤ xs.length ∧ Pv i H, ⟨xs.length, by simp, Nat.zero_le _, h0⟩, ?_⟩
  rintro i m H ⟨rfl, hi, p⟩
  have q := hl i H hi p
  by_cases hlt : i < xs.length
  · refine .inr ⟨⟨xs, xs[i], q, by simp [hlt]⟩, Pv (i + 1), fun H' p' => ⟨xs.length - (i + 1), by omega, rfl, hlt, p'⟩, fun x H' y => ?_⟩
    obtain ⟨e, y⟩ := y
    subst e
    exact hs i x _ (y xs q) p
  · have e : i = xs.length := by omega
    subst e
    exact .inl ⟨⟨xs, q, Nat.le_refl _⟩, hd H p⟩
def blkC (N : List Str) (sc scope : Scope) (own : List (Str × Nat)) : Bool :=
  (match scope.kind with | .function => true | _ => false) && (scope.names.all fun y => decide (scope.names.lookup y.1 = some y.2)) && (own.all fun p => decide (N[p.2]? = some p.1)) &&
    (scope.names.all fun y => match y.2 with
      | .free => (match sc.names.lookup y.1 with | some .cell => true | some .free => true | _ => false)
      | .local => decide (y.1 ∈ own.map (·.1)) || decide (y.1 ∉ N)
      | .cell => decide (y.1 ∈ own.map (·.1)) || decide (y.1 ∉ N)
      | _ => true)
theorem blkOk_by {N : List Str} {sc scope : Scope} {own : List (Str × Nat)} (h : blkC N sc scope own = true) : BlkOk N sc scope own := by
  unfold blkC at h
  simp only [Bool.and_eq_true, List.all_eq_true, decide_eq_true_eq] at h
  obtain ⟨⟨⟨h1, h2⟩, h3⟩, h4⟩ := h
  refine ⟨?_, h2, h3, fun y hy e => ?_, fun y hy e => ?_⟩
  · split at h1
    · assumption
    · cases h1
  · have q := h4 y hy
    simp only [e] at q
    split at q <;> first | exact .inl (by assumption) | exact .inr (by assumption) | cases q
  · have q := h4 y hy
    rcases e with e | e <;> (simp only [e, Bool.or_eq_true, decide_eq_true_eq] at q; exact q)
end L2

namespace L2
open PySem PySem.Spec PyProof.Rows


section
variable {prog : Program} {w : World} {A : Around} {R : Result → Shared → Prop} {s : Shared} {elt t0 i0 t1 i1 : Expr} {ifs0 ifs1 : List Expr} {scope : Scope} {pos : Pos} {it acc : Value} {env : Env}
end

section
variable {X : Cx}
end
end L2

namespace L2
open PySem PySem.Spec PyProof.Rows

/-! ### lists of pairs as tables -/
section
variable {κ : Type} [DecidableEq κ]
def valV (kvs : List (κ × V)) (k : κ) : Option V := (kvs.find? fun kv => decide (kv.1 = k)).map (·.2)
/-- in its place, or at the end -/
def putK (kvs : List (κ × V)) (k : κ) (v : V) : List (κ × V) :=
  if (kvs.any fun kv => decide (kv.1 = k)) = true then kvs.map (fun kv => if kv.1 = k then (kv.1, v) else kv) else kvs ++ [(k, v)]
def dropK (kvs : List (κ × V)) (k : κ) : List (κ × V) := kvs.filter fun kv => decide (kv.1 ≠ k)

theorem valV_pos {p : κ × V} {r : List (κ × V)} {k : κ} (e : p.1 = k) : valV (p :: r) k = some p.2 := by simp [valV, List.find?_cons, e]
theorem valV_neg {p : κ × V} {r : List (κ × V)} {k : κ} (e : ¬ p.1 = k) : valV (p :: r) k = valV r k := by simp [valV, List.find?_cons, e]
theorem valV_any (k : κ) : ∀ kvs : List (κ × V), (kvs.any fun kv => decide (kv.1 = k)) = (valV kvs k).isSome
  | [] => rfl
  | p :: r => by
    rw [List.any_cons]
    by_cases e : p.1 = k
    · simp only [valV_pos e, decide_eq_true e, Bool.true_or, Option.isSome_some]
    · rw [valV_neg e, decide_eq_false e, Bool.false_or]; exact valV_any k r
theorem valV_map (k j : κ) (y : V) : ∀ kvs : List (κ × V), valV (kvs.map fun kv => if kv.1 = k then (kv.1, y) else kv) j = (valV kvs j).map fun x => if j = k then y else x
  | [] => rfl
  | p :: r => by
    have ih := valV_map k j y r
    rw [List.map_cons]
    by_cases h : p.1 = k
    · rw [if_pos h]
      by_cases e : p.1 = j
      · rw [valV_pos (p := (p.1, y)) e, valV_pos e, Option.map_some, if_pos (e.symm.trans h)]
      · rw [valV_neg (p := (p.1, y)) e, valV_neg e, ih]
    · rw [if_neg h]
      by_cases e : p.1 = j
      · rw [valV_pos (p := p) e, valV_pos e, Option.map_some, if_neg (fun z => h (e.trans z))]
      · rw [valV_neg (p := p) e, valV_neg e, ih]
theorem valV_snoc (k j : κ) (y : V) : ∀ kvs : List (κ × V), valV kvs k = none → valV (kvs ++ [(k, y)]) j = if j = k then some y else valV kvs j
  | [], _ => by
    by_cases e : k = j
    · rw [if_pos e.symm]; exact valV_pos (p := (k, y)) e
    · rw [if_neg (fun z => e z.symm)]; exact valV_neg (p := (k, y)) e
  | p :: r, hn => by
    rw [List.cons_append]
    have hk : ¬ p.1 = k := fun z => by rw [valV_pos z] at hn; cases hn
    rw [valV_neg hk] at hn
    have ih := valV_snoc k j y r hn
    by_cases e : p.1 = j
    · rw [valV_pos e, valV_pos e, if_neg (fun z => hk (e.trans z))]
    · rw [valV_neg e, valV_neg e, ih]
theorem valV_put (kvs : List (κ × V)) (k j : κ) (y : V) : valV (putK kvs k y) j = if j = k then some y else valV kvs j := by
  unfold putK
  by_cases a : (kvs.any fun kv => decide (kv.1 = k)) = true
  · rw [if_pos a, valV_map]
    rw [valV_any] at a
    by_cases e : j = k
    · obtain ⟨x, hx⟩ := Option.isSome_iff_exists.mp a
      rw [if_pos e, e, hx, Option.map_some, if_pos rfl]
    · rw [if_neg e]
      cases valV kvs j with
      | none => rfl
      | some x => rw [Option.map_some, if_neg e]
  · rw [if_neg a]
    refine valV_snoc k j y kvs ?_
    rw [valV_any] at a
    cases q : valV kvs k with
    | none => rfl
    | some x => rw [q] at a; exact (a rfl).elim
theorem length_putK (kvs : List (κ × V)) (k : κ) (v : V) : (putK kvs k v).length ≤ kvs.length + 1 := by
  unfold putK
  split
  · rw [List.length_map]; omega
  · rw [List.length_append, List.length_cons, List.length_nil]; omega
theorem putK_new {kvs : List (κ × V)} {k : κ} (v : V) (h : valV kvs k = none) : putK kvs k v = kvs ++ [(k, v)] := by
  unfold putK
  rw [valV_any, h]
  exact if_neg (by decide)

theorem RelO.isSome_eq {o : Option V} {u : Option Value} (r : RelO o u) : o.isSome = u.isSome := by
  cases o with
  | none => cases u with
    | none => rfl
    | some _ => exact (show False from r).elim
  | some _ => cases u with
    | none => exact (show False from r).elim
    | some _ => rfl

/-- raw tables of the same keys -/
theorem KV.val {kvs : List (κ × V)} {vs : List (κ × Value)} (r : KV kvs vs) (k : κ) : RelO (valV kvs k) (valueAt vs k) := by
  unfold KV at r
  induction r with
  | nil => exact True.intro
  | @cons p q ps qs h t ih =>
    obtain ⟨h1, h2⟩ := h
    by_cases e : p.1 = k
    · have e' : q.1 = k := h1.symm.trans e
      have b : valueAt (q :: qs) k = some q.2 := by simp [valueAt, List.find?_cons, e']
      rw [valV_pos e, b]; exact h2
    · have e' : ¬ q.1 = k := fun z => e (h1.trans z)
      have b : valueAt (q :: qs) k = valueAt qs k := by simp [valueAt, List.find?_cons, e']
      rw [valV_neg e, b]; exact ih
theorem KV.any {kvs : List (κ × V)} {vs : List (κ × Value)} (r : KV kvs vs) (k : κ) : (kvs.any fun kv => decide (kv.1 = k)) = vs.any fun kv => decide (kv.1 = k) := by
  unfold KV at r
  induction r with
  | nil => rfl
  | cons h t ih => rw [List.any_cons, List.any_cons, ih, h.1]
theorem KV.repl {kvs : List (κ × V)} {vs : List (κ × Value)} (r : KV kvs vs) (k : κ) {y : V} {u : Value} (ry : RelV y u) :
    KV (kvs.map fun kv => if kv.1 = k then (kv.1, y) else kv) (vs.map fun kv => if kv.1 = k then (kv.1, u) else kv) := by
  unfold KV at r ⊢
  induction r with
  | nil => exact .nil
  | @cons p q ps qs h t ih =>
    rw [List.map_cons, List.map_cons]
    refine .cons ?_ ih
    obtain ⟨h1, h2⟩ := h
    by_cases e : p.1 = k
    · rw [if_pos e, if_pos (h1.symm.trans e)]; exact ⟨h1, ry⟩
    · rw [if_neg e, if_neg (fun z => e (h1.trans z))]; exact ⟨h1, h2⟩
theorem KV.put {kvs : List (κ × V)} {vs : List (κ × Value)} (r : KV kvs vs) (k : κ) {y : V} {u : Value} (ry : RelV y u) : KV (putK kvs k y) (stored vs k u) := by
  unfold putK stored
  rw [r.any k]
  by_cases e : (vs.any fun kv => decide (kv.1 = k)) = true
  · rw [if_pos e, if_pos e]; exact r.repl k ry
  · rw [if_neg e, if_neg e]; exact Paired.snoc r ⟨rfl, ry⟩
theorem KV.drop {kvs : List (κ × V)} {vs : List (κ × Value)} (r : KV kvs vs) (k : κ) : KV (dropK kvs k) (without vs k) := by
  unfold KV at r ⊢
  unfold dropK without
  induction r with
  | nil => exact .nil
  | @cons p q ps qs h t ih =>
    obtain ⟨h1, h2⟩ := h
    rw [List.filter_cons, List.filter_cons]
    by_cases e : p.1 = k
    · have a : ¬ decide (p.1 ≠ k) = true := by simp [e]
      have b : ¬ decide (q.1 ≠ k) = true := by simp [h1.symm.trans e]
      rw [if_neg a, if_neg b]; exact ih
    · have e' : ¬ q.1 = k := fun z => e (h1.trans z)
      have a : decide (p.1 ≠ k) = true := by simp [e]
      have b : decide (q.1 ≠ k) = true := by simp [e']
      rw [if_pos a, if_pos b]; exact .cons ⟨h1, h2⟩ ih
theorem KV.length {kvs : List (κ × V)} {vs : List (κ × Value)} (r : KV kvs vs) : kvs.length = vs.length := Paired.length r
theorem dropK_le (kvs : List (κ × V)) (k : κ) : (dropK kvs k).length ≤ kvs.length := List.length_filter_le _ _
end


/-! ### a tracked dict, its keys ints and texts or tuples of these -/
theorem kV_is {P : Program} {w : World} {k : Key} {u : Value} (r : RelV (kV k) u) : (mixKind P w).is k u = true := by
  cases k with
  | inl i => obtain ⟨t, e⟩ := (show ∃ t, u = Value.int i t from r); subst e; exact mixKind_int P w i t
  | inr x => obtain ⟨t, e⟩ := (show ∃ t, u = Value.str x t from r); subst e; exact mixKind_str P w x t
theorem items_are {P : Program} {w : World} : ∀ {ks : List Key} {us : List Value}, Vals (ks.map kV) us → ItemsAre (mixKind P w) ks us
  | [], _, r => by rw [List.map_nil] at r; cases r; exact .nil
  | k :: ks, _, r => by
    rw [List.map_cons] at r
    cases r with
    | cons h t => exact .cons (kV_is h) (items_are t)

/-- raw entries of a dict with tuple keys -/
abbrev KT (H : Hp) : List (List Key × V) → List (List Key × Addr × Value) → Prop := Paired fun p q => p.1 = q.1 ∧ H q.2.1 = some (.tup (p.1.map kV)) ∧ RelV p.2 q.2.2
theorem KT.val {H : Hp} {kvs : List (List Key × V)} {xs : List (List Key × Addr × Value)} (r : KT H kvs xs) (k : List Key) : RelO (valV kvs k) ((atKey xs k).map (·.2)) := by
  induction r with
  | nil => exact True.intro
  | @cons p q ps qs h t ih =>
    obtain ⟨h1, _, h2⟩ := h
    by_cases e : p.1 = k
    · have e' : q.1 = k := h1.symm.trans e
      have b : atKey (q :: qs) k = some q.2 := by simp [atKey, List.find?_cons, e']
      rw [valV_pos e, b]; exact h2
    · have e' : ¬ q.1 = k := fun z => e (h1.trans z)
      have b : atKey (q :: qs) k = atKey qs k := by simp [atKey, List.find?_cons, e']
      rw [valV_neg e, b]; exact ih
theorem KT.repl {H : Hp} {kvs : List (List Key × V)} {xs : List (List Key × Addr × Value)} (r : KT H kvs xs) (k : List Key) {y : V} {u : Value} (ry : RelV y u) :
    KT H (kvs.map fun kv => if kv.1 = k then (kv.1, y) else kv) (xs.map (putAt k u)) := by
  induction r with
  | nil => exact .nil
  | @cons p q ps qs h t ih =>
    rw [List.map_cons, List.map_cons]
    refine .cons ?_ ih
    obtain ⟨h1, h2, h3⟩ := h
    unfold putAt
    by_cases e : p.1 = k
    · rw [if_pos e, if_pos (h1.symm.trans e)]; exact ⟨h1, h2, ry⟩
    · rw [if_neg e, if_neg (fun z => e (h1.trans z))]; exact ⟨h1, h2, h3⟩
theorem KT.put {H : Hp} {kvs : List (List Key × V)} {xs : List (List Key × Addr × Value)} (r : KT H kvs xs) (k : List Key) {b : Addr} {y : V} {u : Value} (hb : H b = some (.tup (k.map kV))) (ry : RelV y u) :
    KT H (putK kvs k y) (storedH xs k b u) := by
  have e : (kvs.any fun kv => decide (kv.1 = k)) = (atKey xs k).isSome := by
    rw [valV_any, (r.val k).isSome_eq, Option.isSome_map]
  unfold putK storedH
  rw [e]
  by_cases q : (atKey xs k).isSome = true
  · rw [if_pos q, if_pos q]; exact r.repl k ry
  · rw [if_neg q, if_neg q]; exact Paired.snoc r ⟨rfl, hb, ry⟩
theorem KT.keeps {H H' : Hp} {kvs : List (List Key × V)} {xs : List (List Key × Addr × Value)} (r : KT H kvs xs) (ht : ∀ b ys, H b = some (.tup ys) → H' b = some (.tup ys)) : KT H' kvs xs :=
  Paired.mapP r fun _ _ z => ⟨z.1, ht _ _ z.2.1, z.2.2⟩

section
variable {P : Program} {w : World} {H : Hp} {h : Heap} {a : Addr}
theorem rd_of {u : HO} (ok : HOk P w H h) (e : Rd H a u) : ObjOk P w H h a u := e.ok ok
theorem dk_rd {kvs : List (Key × V)} (ok : HOk P w H h) (e : Rd H a (.dK kvs)) : kvs.length ≤ sizeLine ∧ (a == sysModules) = false ∧ ∃ vs, KV kvs vs ∧ h.DictOf (mixKind P w) a vs :=
  show ObjOk P w H h a (.dK kvs) from rd_of ok e
theorem dk_of {kvs : List (Key × V)} (ok : HOk P w H h) (e : H a = some (.dK kvs)) : kvs.length ≤ sizeLine ∧ (a == sysModules) = false ∧ ∃ vs, KV kvs vs ∧ h.DictOf (mixKind P w) a vs := dk_rd ok (.inl e)
/-- a tracked tuple of ints and texts is a key -/
theorem key_of {ks : List Key} (ok : HOk P w H h) (e : H a = some (.tup (ks.map kV))) : (tupleKind (mixKind P w)).is h ks a := by
  obtain ⟨_, its, r, o, h1, h2, n, h3⟩ := (show ObjOk P w H h a (.tup (ks.map kV)) from ok a _ e)
  exact ⟨o, its.toArray, n, h1, h2, h3, by simpa using items_are r⟩
theorem dt_rd {kvs : List (List Key × V)} (ok : HOk P w H h) (e : Rd H a (.dT kvs)) : kvs.length ≤ sizeLine ∧ (a == sysModules) = false ∧
    ∃ xs, KT H kvs xs ∧ h.DictOfH (tupleKind (mixKind P w)) a xs := by
  obtain ⟨z, y, xs, r, o, es, ep, h1, h2, h3, h4, h5⟩ := (show ObjOk P w H h a (.dT kvs) from rd_of ok e)
  refine ⟨z, y, xs, r, o, es, ep, h1, h2, h3, h4, fun x hx => ?_, h5⟩
  have all : ∀ {l : List (List Key × V)} {m : List (List Key × Addr × Value)}, KT H l m → ∀ x ∈ m, (tupleKind (mixKind P w)).is h x.1 x.2.1 := by
    intro l m q
    induction q with
    | nil => intro x hx; exact nomatch hx
    | @cons p q ps qs hq t ih =>
      intro x hx
      rcases List.mem_cons.mp hx with e | hx
      · subst e
        exact key_of ok (by rw [← hq.1]; exact hq.2.1)
      · exact ih x hx
  exact all r x hx
theorem dt_of {kvs : List (List Key × V)} (ok : HOk P w H h) (e : H a = some (.dT kvs)) : kvs.length ≤ sizeLine ∧ (a == sysModules) = false ∧
    ∃ xs, KT H kvs xs ∧ h.DictOfH (tupleKind (mixKind P w)) a xs := dt_rd ok (.inl e)
end

/-- what the dict at a holds at the key y -/
def DGet (H : Hp) (a : Addr) (y : V) (r : Option V) : Prop :=
  (∃ kvs k, Rd H a (.dK kvs) ∧ y = kV k ∧ r = valV kvs k) ∨ ∃ kvs k b, Rd H a (.dT kvs) ∧ y = .ref b ∧ H b = some (.tup (k.map kV)) ∧ r = valV kvs k
/-- the heap behind a[y] = v -/
def DPut (H : Hp) (a : Addr) (y v : V) (H' : Hp) : Prop :=
  (∃ kvs k, H a = some (.dK kvs) ∧ y = kV k ∧ kvs.length < sizeLine ∧ H' = upd H a (.dK (putK kvs k v))) ∨
  ∃ kvs k b, H a = some (.dT kvs) ∧ y = .ref b ∧ H b = some (.tup (k.map kV)) ∧ kvs.length < sizeLine ∧ H' = upd H a (.dT (putK kvs k v))
theorem DGet.k {H : Hp} {a : Addr} {kvs : List (Key × V)} {k : Key} (e : H a = some (.dK kvs)) : DGet H a (kV k) (valV kvs k) := .inl ⟨kvs, k, .inl e, rfl, rfl⟩
theorem DGet.t {H : Hp} {a b : Addr} {kvs : List (List Key × V)} {k : List Key} (e : H a = some (.dT kvs)) (eb : H b = some (.tup (k.map kV))) : DGet H a (.ref b) (valV kvs k) := .inr ⟨kvs, k, b, .inl e, rfl, eb, rfl⟩
theorem DPut.k {H : Hp} {a : Addr} {kvs : List (Key × V)} {k : Key} {v : V} (e : H a = some (.dK kvs)) (hl : kvs.length < sizeLine) : DPut H a (kV k) v (upd H a (.dK (putK kvs k v))) := .inl ⟨kvs, k, e, rfl, hl, rfl⟩
theorem DPut.t {H : Hp} {a b : Addr} {kvs : List (List Key × V)} {k : List Key} {v : V} (e : H a = some (.dT kvs)) (eb : H b = some (.tup (k.map kV))) (hl : kvs.length < sizeLine) :
    DPut H a (.ref b) v (upd H a (.dT (putK kvs k v))) := .inr ⟨kvs, k, b, e, rfl, eb, hl, rfl⟩


section
variable {X : Cx} {pins : List (Addr × Obj)} {σ : St} {H : Hp} {s : Shared} {a : Addr} {y v : V} {u r : Value} {o : Option V} {A : Around} {E : Value → Shared → Prop}

theorem Inv.big (I : Inv X pins σ H s) : sysModules < s.heap.objs.size := by
  have h : mainGlobals < s.heap.objs.size := (I.mod.glob.keeps I.bk).lt
  exact Nat.lt_trans (by decide) h

/-- d[y], there -/
theorem d_getItem {Q : Value → Shared → Prop} (hu : A.units + 1 < cLine) (I : Inv X pins σ H s) (g : DGet H a y (some v)) (ry : RelV y u) (h : ∀ w' s', Inv X pins σ H s' → RelV v w' → Q w' s') :
    wpAny (model X.prog X.w) A (getItem (.ref a) u) Q E s := by
  rcases g with ⟨kvs, k, e, ey, l⟩ | ⟨kvs, k, b, e, ey, eb, l⟩
  · subst ey
    obtain ⟨z, hd, vs, rel, dd⟩ := dk_rd I.hok e
    obtain ⟨w', hw, rw'⟩ := RelO.some_of (v := v) (o := valueAt vs k) (by rw [l]; exact rel.val k)
    exact wpAny_getItem_of (kV_is ry) dd.mapOf hw (h w' _ (I.tok _) rw')
  · subst ey
    cases (show u = Value.ref b from ry)
    obtain ⟨z, hd, xs, rel, dd⟩ := dt_rd I.hok e
    obtain ⟨w', hw, rw'⟩ := RelO.some_of (v := v) (o := (atKey xs k).map (·.2)) (by rw [l]; exact rel.val k)
    obtain ⟨p, hp, hp2⟩ := Option.map_eq_some_iff.mp hw
    refine wpAny_getItem_heap (tupleKind_room_in1 hu) (key_of I.hok eb) dd hp ?_
    rw [hp2]
    exact h w' _ (I.tok _) rw'
/-- y in d -/
theorem d_in {Q : Value → Shared → Prop} (hu : A.units + 1 < cLine) (I : Inv X pins σ H s) (g : DGet H a y o) (ry : RelV y u) (h : ∀ s', Inv X pins σ H s' → Q (.bool o.isSome) s') :
    wpAny (model X.prog X.w) A (compareOp .In u (.ref a)) Q E s := by
  rcases g with ⟨kvs, k, e, ey, l⟩ | ⟨kvs, k, b, e, ey, eb, l⟩
  · subst ey
    obtain ⟨z, hd, vs, rel, dd⟩ := dk_rd I.hok e
    refine wpAny_in_of (kV_is ry) hd dd.mapOf ?_
    rw [← (rel.val k).isSome_eq, ← l]
    exact h _ (I.tok _)
  · subst ey
    cases (show u = Value.ref b from ry)
    obtain ⟨z, hd, xs, rel, dd⟩ := dt_rd I.hok e
    refine wpAny_in_heap (tupleKind_room_in1 hu) (key_of I.hok eb) hd dd ?_
    have q := (rel.val k).isSome_eq
    rw [Option.isSome_map] at q
    rw [← q, ← l]
    exact h _ (I.tok _)
theorem d_notIn {Q : Value → Shared → Prop} (hu : A.units + 1 < cLine) (I : Inv X pins σ H s) (g : DGet H a y o) (ry : RelV y u) (h : ∀ s', Inv X pins σ H s' → Q (.bool (!o.isSome)) s') :
    wpAny (model X.prog X.w) A (compareOp .NotIn u (.ref a)) Q E s := by
  rcases g with ⟨kvs, k, e, ey, l⟩ | ⟨kvs, k, b, e, ey, eb, l⟩
  · subst ey
    obtain ⟨z, hd, vs, rel, dd⟩ := dk_rd I.hok e
    refine wpAny_notIn_of (kV_is ry) hd dd.mapOf ?_
    rw [← (rel.val k).isSome_eq, ← l]
    exact h _ (I.tok _)
  · subst ey
    cases (show u = Value.ref b from ry)
    obtain ⟨z, hd, xs, rel, dd⟩ := dt_rd I.hok e
    refine wpAny_notIn_heap (tupleKind_room_in1 hu) (key_of I.hok eb) hd dd ?_
    have q := (rel.val k).isSome_eq
    rw [Option.isSome_map] at q
    rw [← q, ← l]
    exact h _ (I.tok _)
/-- a dict's object is replaced -/
theorem d_write {h' : Heap} {t' : Nat} {ob : HO} (I : Inv X pins σ H s) (mu : Mut (H a)) (hs : Heap.SameBut a s.heap h') (he : ∃ q, h'.get? a = some q) (new : ObjOk X.prog X.w (upd H a ob) h' a ob) :
    Inv X pins σ (upd H a ob) { s with heap := h', toks := t' } :=
  I.write (x := a) (e := a) mu (.inl rfl) (fun b q hb z => (hs.2 b hb).trans z) he new
theorem dk_new {P : Program} {w : World} {H' : Hp} {h' : Heap} {kvs : List (Key × V)} {vs : List (Key × Value)} (z : kvs.length ≤ sizeLine) (hd : (a == sysModules) = false) (rel : KV kvs vs) (dd : h'.DictOf (mixKind P w) a vs) :
    ObjOk P w H' h' a (.dK kvs) := ⟨z, hd, vs, rel, dd⟩
/-- d[y] = v -/
theorem d_setItem {H' : Hp} {Q : Unit → Shared → Prop} (hu : A.units + 1 < cLine) (I : Inv X pins σ H s) (g : DPut H a y v H') (ry : RelV y u) (rv : RelV v r) (h : ∀ s', Inv X pins σ H' s' → Q () s') :
    wpAny (model X.prog X.w) A (setItem (.ref a) u r) Q E s := by
  rcases g with ⟨kvs, k, e, ey, l, eH⟩ | ⟨kvs, k, b, e, ey, eb, l, eH⟩
  · subst ey eH
    obtain ⟨z, hd, vs, rel, dd⟩ := dk_of I.hok e
    have hz : vs.length ≤ sizeLine := by rw [← rel.length]; exact z
    have hl : (putK kvs k v).length ≤ sizeLine := by have := length_putK kvs k v; omega
    refine wpAny_setItem_pairs (hsz := hz) (kV_is ry) dd fun h' dd' hs => h _ ?_
    have he : ∃ q, h'.get? a = some q := let ⟨q, _, _, hq, _⟩ := dd'; ⟨q, hq⟩
    exact d_write I (by rw [e]; exact True.intro) hs he (dk_new hl hd (rel.put k rv) dd')
  · subst ey eH
    cases (show u = Value.ref b from ry)
    obtain ⟨z, hd, xs, rel, dd⟩ := dt_of I.hok e
    have hz : xs.length ≤ sizeLine := by rw [← Paired.length rel]; exact z
    have hl : (putK kvs k v).length ≤ sizeLine := by have := length_putK kvs k v; omega
    refine wpAny_setItem_heap (hsz := hz) (tupleKind_room_in1 hu) (key_of I.hok eb) dd fun h' dd' hs => h _ ?_
    obtain ⟨q, es, ep, hq, h2, h3, h4, _, h5⟩ := dd'
    refine d_write I (by rw [e]; exact True.intro) hs ⟨q, hq⟩ ⟨hl, hd, _, (rel.put k eb rv).keeps fun c ys ec => ?_, q, es, ep, hq, h2, h3, h4, h5⟩
    rw [upd_ne (ne_of ec e (fun z => nomatch z))]
    exact ec
end

section
variable {X : Cx} {pins : List (Addr × Obj)} {σ : St} {H : Hp} {s : Shared} {a : Addr} {kvs : List (Key × V)} {k : Key} {u : Value} {A : Around} {E : Value → Shared → Prop}
/-- d.pop(k[, x]), there -/
theorem d_pop {v : V} {more : List Value} {Q : Value → Shared → Prop} (I : Inv X pins σ H s) (e : H a = some (.dK kvs)) (ry : RelV (kV k) u) (l : valV kvs k = some v) (hm : more = [] ∨ ∃ x, more = [x])
    (h : ∀ w' s', Inv X pins σ (upd H a (.dK (dropK kvs k))) s' → RelV v w' → Q w' s') : wpAny (model X.prog X.w) A (call (.builtin "dict.pop") (.ref a :: u :: more)) Q E s := by
  obtain ⟨z, hd, vs, rel, dd⟩ := dk_of I.hok e
  obtain ⟨w', hw, rw'⟩ := RelO.some_of (v := v) (o := valueAt vs k) (by rw [← l]; exact rel.val k)
  have hp : (keyPart u).isSome = true := by
    cases k with
    | inl i => obtain ⟨t, q⟩ := (show ∃ t, u = Value.int i t from ry); subst q; rfl
    | inr x => obtain ⟨t, q⟩ := (show ∃ t, u = Value.str x t from ry); subst q; rfl
  have ha : argsOk "dict.pop" ⟨.ref a :: u :: more, []⟩ := by
    rcases hm with q | ⟨x, q⟩
    · subst q; exact PySem.F.args_dict_pop_2 _ _
    · subst q; exact PySem.F.args_dict_pop_3 _ _ _
  refine call_meetsIn PySem.F.slot_dict_pop dd.typeIs PySem.F.entry_dict_pop ha (meets_dict_pop_there (mixKind X.prog X.w) a (kV_is ry) more hm hp)
    ⟨vs, w', dd, by rw [← rel.length]; exact z, hw, fun h' dd' hs => h w' _ ?_ rw'⟩
  have he : ∃ q, h'.get? a = some q := let ⟨q, _, _, hq, _⟩ := dd'; ⟨q, hq⟩
  exact d_write I (by rw [e]; exact True.intro) hs he (dk_new (Nat.le_trans (dropK_le kvs k) z) hd (rel.drop k) dd')
/-- len(d) -/
theorem d_len {Q : Value → Shared → Prop} (I : Inv X pins σ H s) (e : Rd H a (.dK kvs)) (h : ∀ t s', Inv X pins σ H s' → Q (.int kvs.length t) s') : wpAny (model X.prog X.w) A (call (.builtin "len") [.ref a]) Q E s := by
  obtain ⟨z, hd, vs, rel, dd⟩ := dk_rd I.hok e
  refine call_len_dict hd dd (by rw [← rel.length]; rw [sizeLine_eq] at z; omega) ?_
  rw [← rel.length]
  exact h _ _ (I.tok _)
end


/-! ### readings and rules -/
/-- the element of a subscription, not a slice -/
def NoSl (i : Expr) : Prop := ∀ ov iv, subscripted i false ov iv = operate [ov, iv] (getItem ov iv)
theorem subD_of {prog : Program} {w : World} {A : Around} {E : Value → Shared → Prop} {s : Shared} {env : Env} {value slice : Expr} {pos : Pos} {T id : String} {Q : Value → Shared → Prop}
    (hl : typeLookup (.type T) "__getitem__" = pure (some (.builtin id))) (hs : NoSl slice)
    (h : wpAny (model prog w) A (eval value env) (fun o s₁ => wpAny (model prog w) A (eval slice env) (fun i s₂ => s₂.TypeIs o T ∧ wpAny (model prog w) A (getItem o i) Q E s₂) E s₁) E s) :
    wpAny (model prog w) A (eval (.Subscript value slice pos) env) Q E s := by
  refine Subscript_ (wpAny_mono h (fun o s₁ h₁ => wpAny_mono h₁ (fun i s₂ h₂ => ?_) fun _ _ x => x) fun _ _ x => x)
  obtain ⟨hT, h₂⟩ := h₂
  unfold subscriptTail
  refine wpAny_bind ?_
  rw [getitemInPython_of_ne hT.not_modules]
  refine wpAny_bind (wpAny_specialOf hT hl ?_)
  have fin : wpAny (model prog w) A (subscripted slice false o i) (fun r s₃ => wpAny (model prog w) A (letTemporaryGo value o r >>= fun _ => pure r) Q E s₃) E s₂ := by
    rw [hs o i]
    exact wpAny_operating (wpAny_mono h₂ (fun r s₃ h₃ => wpAny_bind (wpAny_letTemporaryGo (wpAny_pure h₃))) fun _ _ x => x)
  first
    | exact wpAny_pure (wpAny_bind fin)
    | exact wpAny_bind (wpAny_pure (wpAny_bind fin))
    | exact wpAny_bind fin

theorem dict_typeIs {X : Cx} {pins : List (Addr × Obj)} {σ : St} {H : Hp} {s : Shared} {a : Addr} {y : V} {o : Option V} (I : Inv X pins σ H s) (g : DGet H a y o) : s.TypeIs (.ref a) "dict" := by
  rcases g with ⟨kvs, k, e, _, _⟩ | ⟨kvs, k, b, e, _, _, _⟩
  · obtain ⟨_, _, vs, _, dd⟩ := dk_rd I.hok e
    exact dd.typeIs
  · obtain ⟨_, _, xs, _, dd⟩ := dt_rd I.hok e
    exact dd.typeIs

/-- d[y] -/
def tDGet (td ty : TE) : TE := fun σ H Q => td σ H fun x H1 => ty σ H1 fun y H2 => ∃ a v, x = .ref a ∧ DGet H2 a y (some v) ∧ Q v H2
/-- y in d, y not in d -/
def tDIn (ty td : TE) : TE := fun σ H Q => ty σ H fun y H1 => td σ H1 fun x H2 => ∃ a o, x = .ref a ∧ DGet H2 a y o ∧ Q (.bl o.isSome) H2
def tDNotIn (ty td : TE) : TE := fun σ H Q => ty σ H fun y H1 => td σ H1 fun x H2 => ∃ a o, x = .ref a ∧ DGet H2 a y o ∧ Q (.bl (!o.isSome)) H2
/-- d[y] = v -/
def sDPut (td ty tv : TE) : TS := fun D σ H => tv σ H fun v H1 => td σ H1 fun x H2 => ty σ H2 fun y H3 => ∃ a H4, x = .ref a ∧ DPut H3 a y v H4 ∧ D.nx σ H4

section
variable {X : Cx} {o i e value : Expr} {pos pos' tpos : Pos} {td ty tv : TE}
theorem pe_dget (hu : X.A.units + 1 < cLine) (ho : PE X o td) (hi : PE X i ty) (hs : NoSl i) : PE X (.Subscript o i pos) (tDGet td ty) := by
  intro pins s σ H Q I h
  refine subD_of PySem.F.slot_dict_getitem.lookup hs (thn (ho pins s σ H _ I h) fun u s1 ⟨x, H1, I1, rx, q1⟩ => thn (hi pins s1 σ H1 _ I1 q1) fun iv s2 ⟨y, H2, I2, ry, a, v, ex, g, q2⟩ => ?_)
  subst ex
  obtain rfl : u = Value.ref a := rx
  exact ⟨dict_typeIs I2 g, d_getItem hu I2 g ry fun w' s3 I3 rw' => ⟨v, H2, I3, rw', q2⟩⟩
theorem pc_din (hu : X.A.units + 1 < cLine) (hi : PE X i ty) (ho : PE X o td) : PC X .In i o (tDIn ty td) := by
  intro pins s σ H Q I h
  refine thn (hi pins s σ H _ I h) fun iv s1 ⟨y, H1, I1, ry, q1⟩ => thn (ho pins s1 σ H1 _ I1 q1) fun u s2 ⟨x, H2, I2, rx, a, ov, ex, g, q2⟩ => ?_
  subst ex
  obtain rfl : u = Value.ref a := rx
  exact d_in hu I2 g ry fun s3 I3 => ⟨.bl ov.isSome, H2, I3, rfl, q2⟩
theorem pc_dnotin (hu : X.A.units + 1 < cLine) (hi : PE X i ty) (ho : PE X o td) : PC X .NotIn i o (tDNotIn ty td) := by
  intro pins s σ H Q I h
  refine thn (hi pins s σ H _ I h) fun iv s1 ⟨y, H1, I1, ry, q1⟩ => thn (ho pins s1 σ H1 _ I1 q1) fun u s2 ⟨x, H2, I2, rx, a, ov, ex, g, q2⟩ => ?_
  subst ex
  obtain rfl : u = Value.ref a := rx
  exact d_notIn hu I2 g ry fun s3 I3 => ⟨.bl (!ov.isSome), H2, I3, rfl, q2⟩
theorem ps_dput (hu : X.A.units + 1 < cLine) (ho : PE X o td) (hi : PE X i ty) (hv : PE X value tv) (hs : swapsWith value (some (.Subscript o i pos')) pos.line X.env = pure false) :
    PS X (.Assign [.Subscript o i pos'] value pos) (sDPut td ty tv) := by
  intro pins s σ H D I h
  refine wpAny_Assign_Subscript (thn (hv pins s σ H _ I h) fun r s1 ⟨v, H1, I1, rv, q1⟩ => thn (ho pins s1 σ H1 _ I1 q1) fun u s2 ⟨x, H2, I2, rx, q2⟩ => thn (hi pins s2 σ H2 _ I2 q2) fun iv s3 ⟨y, H3, I3, ry, a, H4, ex, g, q3⟩ => ?_) hs
  subst ex
  obtain rfl : u = Value.ref a := rx
  exact d_setItem hu I3 g ry rv fun s4 I4 => ⟨σ, H4, I4, q3⟩
end


/-! ### displays -/
theorem dk_empty {P : Program} {w : World} {H : Hp} (h : Heap) (hb : sysModules < h.objs.size) : ObjOk P w H (h.push { cls := .type "dict", data := .dict #[] }) h.objs.size (.dK []) :=
  ⟨Nat.zero_le _, beq_eq_false_iff_ne.mpr (Ne.symm (Nat.ne_of_lt hb)), [], .nil, Heap.DictOf.new h⟩
theorem dt_empty {P : Program} {w : World} {H : Hp} (h : Heap) (hb : sysModules < h.objs.size) : ObjOk P w H (h.push { cls := .type "dict", data := .dict #[] }) h.objs.size (.dT []) :=
  ⟨Nat.zero_le _, beq_eq_false_iff_ne.mpr (Ne.symm (Nat.ne_of_lt hb)), [], .nil, _, #[], 0, Heap.get?_push_size _ rfl, ⟨rfl, rfl, rfl⟩, rfl, rfl, List.nodup_nil⟩
/-- {}, to be a dict of the kind that is wanted -/
def tDNewK : TE := fun _ H Q => ∀ p, H p = none → Q (.ref p) (upd H p (.dK []))
def tDNewT : TE := fun _ H Q => ∀ p, H p = none → Q (.ref p) (upd H p (.dT []))
section
variable {X : Cx} {pos : Pos}
theorem pe_dnewK : PE X (.Dict [] [] pos) tDNewK := fun pins s σ H Q I h =>
  wpAny_Dict_empty ⟨.ref s.heap.objs.size, _, I.laid (a := s.heap.objs.size) (o := .dK []) (t' := s.toks) (fun _ _ q => Heap.get?_push_of_some _ q) (Nat.le_refl _) (dk_empty s.heap I.big), rfl, h _ (I.hok.fresh (Nat.le_refl _))⟩
theorem pe_dnewT : PE X (.Dict [] [] pos) tDNewT := fun pins s σ H Q I h =>
  wpAny_Dict_empty ⟨.ref s.heap.objs.size, _, I.laid (a := s.heap.objs.size) (o := .dT []) (t' := s.toks) (fun _ _ q => Heap.get?_push_of_some _ q) (Nat.le_refl _) (dt_empty s.heap I.big), rfl, h _ (I.hok.fresh (Nat.le_refl _))⟩
end




/-! ### methods -/
/-- a method call o.m(e) of a built-in, with one argument: what must be seen of the text -/
structure M1 (X : Cx) (o : Expr) (m : Str) (apos : Pos) (e : Expr) (cpos : Pos) : Prop where
  base : attributeBase o m X.env (eval o X.env) = eval o X.env
  few : ((backTo cpos (starEach [e] X.env)).all (fun x => !x.1) && (backToKw cpos (keywordEach [] X.env)).all (fun x => x.1.isSome)
    && decide (([e] : List Expr).length + ([] : List Keyword).length + (if ([] : List Keyword).isEmpty then 0 else 1) < 30)) = true
  line : (apos.endLine == cpos.line) = true
  trees : backTo cpos (starEach [e] X.env) = [(false, eval e X.env)]

/-- a is a dict, whatever its keys -/
def IsD (H : Hp) (a : Addr) : Prop := (∃ kvs, Rd H a (.dK kvs)) ∨ ∃ kvs, Rd H a (.dT kvs)
theorem isD_at {X : Cx} {pins : List (Addr × Obj)} {σ : St} {H : Hp} {s : Shared} {a : Addr} (I : Inv X pins σ H s) (d : IsD H a) :
    s.TypeIs (.ref a) "dict" ∧ (∀ b, Value.ref a = .ref b → ∃ ob, s.heap.get? b = some ob ∧ ob.dict = none) ∧ (a == sysModules) = false := by
  rcases d with ⟨kvs, e⟩ | ⟨kvs, e⟩
  · obtain ⟨_, hd, vs, _, dd⟩ := dk_rd I.hok e
    refine ⟨dd.typeIs, fun b q => ?_, hd⟩
    cases q
    obtain ⟨ob, _, _, h1, h2, _⟩ := dd
    exact ⟨ob, h1, h2.2.1⟩
  · obtain ⟨_, hd, xs, _, dd⟩ := dt_rd I.hok e
    refine ⟨dd.typeIs, fun b q => ?_, hd⟩
    cases q
    obtain ⟨ob, _, _, h1, h2, _⟩ := dd
    exact ⟨ob, h1, h2.2.1⟩

section
variable {X : Cx} {pins : List (Addr × Obj)} {σ : St} {H : Hp} {s : Shared} {a : Addr} {y d : V} {u r : Value} {o : Option V} {A : Around} {E : Value → Shared → Prop}
end

/-- d.pop(k): there; d.pop(k, x): there or not -/
def tDPop1 (td ty : TE) : TE := fun σ H Q => td σ H fun x H1 => ∃ a, x = .ref a ∧ IsD H1 a ∧ ty σ H1 fun y H2 => ∃ kvs k v, H2 a = some (.dK kvs) ∧ y = kV k ∧ valV kvs k = some v ∧ Q v (upd H2 a (.dK (dropK kvs k)))
section
variable {X : Cx} {o e f : Expr} {apos cpos : Pos} {td ty tx : TE}
theorem pe_dpop1 (ho : PE X o td) (he : PE X e ty) (m : M1 X o "pop" apos e cpos) : PE X (.Call (.Attribute o "pop" apos) [e] [] cpos) (tDPop1 td ty) := by
  intro pins s σ H Q I h
  refine wpAny_Call_method m.base m.few m.line PySem.F.plainAttrs_dict PySem.F.slot_dict_pop PySem.F.type_dict_pop (thn (ho pins s σ H _ I h) fun u s1 ⟨x, H1, I1, rx, a, ex, d, q1⟩ => ?_)
  subst ex
  obtain rfl : u = Value.ref a := rx
  obtain ⟨t1, t2, _⟩ := isD_at I1 d
  refine ⟨t1, t2, ?_⟩
  rw [m.trees]
  refine Calls.callWith_builtin rfl (Calls.evalArgs_plain (Calls.spliced_cons (thn (he pins s1 σ H1 _ I1 q1) fun iv s2 ⟨y, H2, I2, ry, kvs, k, v, ea, ey, l, q2⟩ => Calls.spliced_nil ?_)))
  subst ey
  exact d_pop I2 ea ry l (.inl rfl) fun w' s3 I3 rw' => ⟨v, _, I3, rw', q2⟩
end

/-! ### dict(d): a copy -/
section
variable {X : Cx} {pins : List (Addr × Obj)} {σ : St} {H : Hp} {s : Shared} {a : Addr} {kvs : List (Key × V)} {A : Around} {E : Value → Shared → Prop}
end


section
variable {X : Cx} {pins : List (Addr × Obj)} {σ : St} {H : Hp} {s : Shared} {a : Addr} {y : V} {u : Value} {A : Around} {E : Value → Shared → Prop}
end
end L2

namespace L2
open PySem PySem.Spec PyProof.Rows


section
variable {prog : Program} {w : World} {A : Around} {E : Value → Shared → Prop}


end

section
variable {X : Cx}
end
end L2

namespace L2
open PySem PySem.Spec PyProof.Rows

theorem boot_reversed5 : bootBuiltins "reversed" = some (.type "reversed") := by decide +kernel

section
variable {X : Cx} {pins : List (Addr × Obj)} {σ : St} {H : Hp} {s : Shared} {h' : Heap}
/-- .. and one new object is laid -/
theorem Inv.turnedNew {t' : Nat} {ch : List Addr} {T : Addr} {ob : HO} (I : Inv X pins σ H s) (k : ∀ b o, b ∉ ch → s.heap.get? b = some o → h'.get? b = some o) (hf : ∀ b ∈ ch, FpOk X pins H b) (hT : s.heap.objs.size ≤ T)
    (new : ObjOk X.prog X.w (upd H T ob) h' T ob) : Inv X pins σ (upd H T ob) { s with heap := h', toks := t' } := by
  have hn : H T = none := I.hok.fresh hT
  have nit : ∀ b u, H b = some u → b ∉ ch := fun b u e z => by
    have q := (hf b z).1
    rw [q] at e; cases e
  refine I.step (g' := s.gens) (d' := s.drawn) (ch := ch) (fun b hb => ⟨(hf b hb).2.2.2.1, (hf b hb).2.1, (hf b hb).2.2.2.2.1, (hf b hb).2.2.2.2.2⟩) (fun b o _ _ hc e _ => k b o hc e) (fun b o _ _ hc e _ => ⟨o.slots, k b o hc e⟩)
    (fun b o _ e n => ?_) (fun b o hc e => ⟨o, k b o hc e⟩) (fun b xs e => ?_) (fun b o u e => ?_) (fun b ps e => ⟨#[], ?_⟩) (fun m hm => ?_) (fun b u e => ?_) I.bare
  · rw [upd_ne (Nat.ne_of_lt (Nat.lt_of_lt_of_le (Heap.lt_size e) hT))]; exact n
  · rw [upd_ne (ne_of_none e hn)]; exact e
  · rw [upd_ne (ne_of_none e hn)]; exact e
  · rw [upd_ne (ne_of_none e hn), e]; simp
  · obtain ⟨o, es, ep, ho, r⟩ := hm
    exact ⟨o, es, ep, k _ o (fun z => (hf _ z).2.1 rfl) ho, r⟩
  · by_cases hb : b = T
    · subst hb
      rw [upd_same] at e
      cases e
      exact new
    · rw [upd_ne hb] at e
      refine (I.hok b u e).stay (fun c v hc q => k c v ?_ q) (fun c q => by rw [upd_ne (ne_of_none q hn)]; exact q) fun c xs q => by rw [upd_ne (ne_of_none q hn)]; exact q
      rcases hc with z | z
      · rw [z]; exact nit b u e
      · exact nit c _ z

/-! ### locking a thing while a statement runs -/
theorem Inv.lock {d : Addr} {u : HO} (I : Inv X pins σ H s) (h : H d = some u) (mu : Mut (some u)) : ∃ od, Inv X pins σ (upd H d (.frz od u)) s := by
  have x := I.hok d u h
  have ex : ∃ od, s.heap.get? d = some od := by
    cases u with
    | lst xs => obtain ⟨_, _, _, _, e⟩ := x; exact ⟨_, e⟩
    | dK kvs => obtain ⟨_, _, _, _, o, _, _, e, _⟩ := x; exact ⟨o, e⟩
    | dT kvs => obtain ⟨_, _, _, _, o, _, _, e, _⟩ := x; exact ⟨o, e⟩
    | set S n => obtain ⟨o, _, _, _, e, _⟩ := x; exact ⟨o, e⟩
    | ins C dx fs => obtain ⟨_, _, _, e, _⟩ := x; exact ⟨_, e⟩
    | ext φ => obtain ⟨_, ⟨_, e⟩, _⟩ := x; exact ⟨_, e⟩
    | _ => exact False.elim mu
  obtain ⟨od, e⟩ := ex
  have new : ObjOk X.prog X.w (upd H d (.frz od u)) s.heap d (.frz od u) := by
    refine ⟨e, x.stay (fun b v _ q => q) (fun b q => ?_) fun b xs q => ?_⟩
    · rw [upd_ne (fun z => by rw [z, h] at q; cases q; exact mu)]; exact q
    · rw [upd_ne (fun z => by rw [z, h] at q; cases q; exact mu)]; exact q
  exact ⟨od, I.write (x := d) (e := d) (t' := s.toks) (h' := s.heap) (by rw [h]; exact mu) (.inl rfl) (fun b v _ q => q) ⟨od, e⟩ new⟩
theorem Inv.nofrz {d : Addr} {u : HO} (I : Inv X pins σ H s) (h : H d = some u) (mu : Mut (some u)) : ∀ o' u', X.H_0 d ≠ some (.frz o' u') := fun o' u' e => by
  have q := I.base.frzs d o' u' e
  rw [h] at q
  cases q
  exact mu
theorem Inv.unlock {d : Addr} {od : Obj} {u : HO} (I : Inv X pins σ H s) (h : H d = some (.frz od u)) (hn : ∀ o' u', X.H_0 d ≠ some (.frz o' u')) : Inv X pins σ (upd H d u) s := by
  have neH : ∀ b o, H b = some o → (∀ o' u', o ≠ .frz o' u') → b ≠ d := fun b o e hne z => by
    rw [z, h] at e
    cases e
    exact hne _ _ rfl
  have neN : ∀ b, H b = none → b ≠ d := fun b e z => by rw [z, h] at e; cases e
  refine ⟨I.ok, I.os, I.bare, ⟨I.base.keep, I.base.slot, fun b o e n hx => ?_, I.base.there, fun b xs e => ?_, fun b o x e => ?_, fun b ps e => ?_⟩, I.loc, I.cell, ?_, fun x c e => ?_, fun p hp => ?_, fun b o e => ?_, I.len⟩
  · rw [upd_ne (neN b (I.base.free b o e n hx))]; exact I.base.free b o e n hx
  · have q := I.base.tups b xs e
    rw [upd_ne (neH b _ q (fun _ _ z => nomatch z))]; exact q
  · have q := I.base.frzs b o x e
    rw [upd_ne (fun z => by rw [z] at e; exact hn _ _ e)]; exact q
  · obtain ⟨m, q⟩ := I.base.tbls b ps e
    exact ⟨m, by rw [upd_ne (neH b _ q (fun _ _ z => nomatch z))]; exact q⟩
  · rw [upd_ne (neN _ I.free)]; exact I.free
  · rw [upd_ne (neN c (I.freeC x c e))]; exact I.freeC x c e
  · obtain ⟨e, n, r⟩ := I.pin p hp
    exact ⟨e, by rw [upd_ne (neN _ n)]; exact n, r⟩
  · by_cases hb : b = d
    · rw [hb, upd_same] at e
      cases e
      rw [hb]
      obtain ⟨_, x⟩ := I.hok d _ h
      exact x.stay (fun c v _ q => q) (fun c q => by rw [upd_ne (neH c _ q (fun _ _ z => nomatch z))]; exact q) fun c xs q => by rw [upd_ne (neH c _ q (fun _ _ z => nomatch z))]; exact q
    · rw [upd_ne hb] at e
      exact (I.hok b o e).stay (fun c v _ q => q) (fun c q => by rw [upd_ne (neH c _ q (fun _ _ z => nomatch z))]; exact q) fun c xs q => by rw [upd_ne (neH c _ q (fun _ _ z => nomatch z))]; exact q
end
/-- the statement runs while the thing at d is locked (read, not written); d and what stands there are the reading's choice -/
def tLock (t : TS) : TS := fun D σ H => ∃ d u, H d = some u ∧ Mut (some u) ∧ ∀ od, t ⟨fun σ' H' => H' d = some (.frz od u) ∧ D.nx σ' (upd H' d u), fun v H' => H' d = some (.frz od u) ∧ D.rt v (upd H' d u), fun σ' H' => H' d = some (.frz od u) ∧ D.bk σ' (upd H' d u), fun σ' H' => H' d = some (.frz od u) ∧ D.ct σ' (upd H' d u)⟩ σ (upd H d (.frz od u))
section
variable {X : Cx}
theorem ps_lock {st : Stmt} {t : TS} (h : PS X st t) : PS X st (tLock t) := by
  intro pins s σ H D I hw
  obtain ⟨d, u, hd, mu, hw⟩ := hw
  obtain ⟨od, I1⟩ := I.lock hd mu
  refine thn (h pins s σ _ _ I1 (hw od)) fun f s1 q => ?_
  cases f with
  | next => obtain ⟨σ', H', I2, e, q⟩ := q; exact ⟨σ', _, I2.unlock e (I.nofrz hd mu), q⟩
  | brk => obtain ⟨σ', H', I2, e, q⟩ := q; exact ⟨σ', _, I2.unlock e (I.nofrz hd mu), q⟩
  | cont => obtain ⟨σ', H', I2, e, q⟩ := q; exact ⟨σ', _, I2.unlock e (I.nofrz hd mu), q⟩
  | ret v => obtain ⟨x, σ', H', I2, r, e, q⟩ := q; exact ⟨x, σ', _, I2.unlock e (I.nofrz hd mu), r, q⟩

/-! ### one iterator just laid -/
theorem pi_one {tg : Expr} {pins : List (Addr × Obj)} {σ : St} {H : Hp} {s : Shared} {R : It → Hp → Prop} {J : It} {tn : Nat → Heap → Prop} {tk : Nat} (I : Inv X pins σ H s) (o : Obj)
    (T : Turn X.prog X.w X.K tg J [s.heap.objs.size] s.heap.objs.size tn) (st : tn 0 (s.heap.push o)) (q : R J H) : PIE X pins σ tg R (.ref s.heap.objs.size) { s with heap := s.heap.push o, toks := tk } := by
  refine ⟨s.heap.objs.size, [s.heap.objs.size], tn, J, H, rfl, I.kept fun b ob e => Heap.get?_push_of_some _ e, T, st, fun b hb => ?_, q⟩
  have e : b = s.heap.objs.size := by simpa using hb
  subst e
  exact I.fpOk (Nat.le_refl _) (I.hok.fresh (Nat.le_refl _))
end

/-! ### range with a step -/
section
variable {X : Cx} {tg : Expr}
end

/-! ### reversed(list) -/
/-- the list at a (n items at the start, which the loop leaves there), from its end -/
def Itv (K : PySem.W.Frag) (a : Addr) (n : Nat) : It :=
  ⟨fun i H => i < n ∧ ∃ (xs : List V) (x : V), SqL K H a xs ∧ xs[n - 1 - i]? = some x, fun i H x H' => H' = H ∧ ∀ xs, SqL K H a xs → xs[n - 1 - i]? = some x, fun i _ => n ≤ i⟩
theorem turn_rev {P : Program} {w : World} {K : PySem.W.Frag} {tg : Expr} (a it : Addr) (n : Nat) : Turn P w K tg (Itv K a n) [it] it (fun i h => i ≤ n ∧ h.IsRevIter it a ((n : Int) - 1 - (i : Nat))) where
  mem := by simp
  obj := fun i h st b hb => by
    have e : b = it := by simpa using hb
    subst e
    obtain ⟨_, o, e, c, d⟩ := st
    exact ⟨o, e, fun v z => by rw [d] at z; cases z⟩
  keep := fun i h h' st k => ⟨st.1, st.2.at fun o e => k it (by simp) o e⟩
  item := by
    intro X hP hw hK hc i pins s σ H E I hf st hg
    subst hP hw hK
    obtain ⟨hin, xs, x, hq, hx⟩ := hg
    obtain ⟨its, rv, p, hz⟩ := I.list hq
    obtain ⟨u, hu, ru⟩ := rv.get hx
    obtain ⟨f0, f1, f2, f3, f4, f5⟩ := hf it (by simp)
    obtain ⟨_, hit⟩ := st
    have e1 : (n : Int) - 1 - ((i : Nat) : Int) = ((n - 1 - i : Nat) : Int) := by omega
    rw [e1] at hit
    refine wpAny_pyNext_rev_item hit p.isList (x := u) (by simpa using hu) fun h' st' sb => ?_
    have e2 : ((n - 1 - i : Nat) : Int) - 1 = (n : Int) - 1 - ((i + 1 : Nat) : Int) := by omega
    rw [e2] at st'
    have I1 : Inv X pins σ H { s with heap := h' } := I.turned (t' := s.toks) (fun b o hb e => (sb.2 b hb).trans e) f0 f1 f3 f4 f5
    obtain ⟨o, e, c, d⟩ := id st'
    exact ⟨u, rfl, go_of (s := { s with heap := h' }) e c d (by decide) ⟨x, H, I1, ru, ⟨rfl, fun ys hy => by rw [I.list_inj hy hq]; exact hx⟩, ⟨hin, st'⟩, fun b hb => (hf b hb).1⟩⟩
  done := by
    intro X hP hw hK hc i pins s σ H E I hf st hg
    subst hP hw hK
    obtain ⟨f0, f1, f2, f3, f4, f5⟩ := hf it (by simp)
    obtain ⟨hin, hit⟩ := st
    have hge : n ≤ i := hg
    have e1 : (n : Int) - 1 - ((i : Nat) : Int) = -1 := by omega
    rw [e1] at hit
    exact wpAny_pyNext_rev_end (I.ok.hd hc) hit fun h' eb => ⟨rfl, I.turned (t' := s.toks) (fun b o hb e => eb b o hb e) f0 f1 f3 f4 f5⟩
  self := fun A i s Q E st h => wpAny_pyIter_revIter st.2 h
def iRev (K : PySem.W.Frag) (ta : TA) : TI := fun σ H R => ta σ H fun vs H1 => ∃ (a : Addr) (xs : List V), vs = [.ref a] ∧ SqL K H1 a xs ∧ R (Itv K a xs.length) H1
section
variable {X : Cx} {tg : Expr}
theorem pi_reversed {e : Expr} {ta : TA} {p pos : Pos} (hg : Gl X "reversed") (hm : X.mg "reversed" = none) (ha : PA X [e] ta) (hs : starEach [e] X.env = [(false, eval e X.env)] := by rfl) : PI X tg (.Call (.Name "reversed" p) [e] [] pos) (iRev X.K ta) := by
  intro pins s σ H R I h
  refine Call_ (ld_blt I hg hm boot_reversed5 (PyProof.Rows.callWith_type1 (thn (ha pos pins s σ H _ I h) fun us s1 ⟨vs, H1, I1, r1, q1⟩ => ?_) hs rfl))
  obtain ⟨a, xs, e, hq, q⟩ := q1
  subst e
  cases r1 with
  | cons r rr =>
    cases rr
    cases r
    obtain ⟨its, rv, p', hz⟩ := I1.list hq
    have hl := rv.length
    have e1 : ((its.toArray.size : Nat) : Int) - 1 = (xs.length : Int) - 1 - ((0 : Nat) : Int) := by simp only [List.size_toArray]; omega
    refine call_reversed_list p'.isList (wpAny_pyIter_revIter (l := a) (i := ((its.toArray.size : Nat) : Int) - 1) ⟨_, Heap.get?_push_size _ rfl, rfl, rfl⟩ ?_)
    refine pi_one (tk := s1.toks) I1 _ (turn_rev a _ xs.length) ⟨Nat.zero_le _, ?_⟩ q
    rw [← e1]
    exact ⟨_, Heap.get?_push_size _ rfl, rfl, rfl⟩
end

/-! ### a str -/
def Its (x : Str) : It := ⟨fun i _ => i < x.cps.size, fun i H v H' => H' = H ∧ ∃ c, x.cps[i]? = some c ∧ v = .str ⟨#[c]⟩, fun i _ => x.cps.size ≤ i⟩
theorem turn_str {P : Program} {w : World} {K : PySem.W.Frag} {tg : Expr} (it : Addr) (x : Str) (t : Tok) (ty : String) (hty : ty = "str_ascii_iterator" ∨ ty = "str_iterator") :
    Turn P w K tg (Its x) [it] it (fun i h => h.IsStrIter it ty x t i) where
  mem := by simp
  obj := fun i h st b hb => by
    have e : b = it := by simpa using hb
    subst e
    obtain ⟨o, e, c, d⟩ := st
    exact ⟨o, e, fun v z => by rw [d] at z; cases z⟩
  keep := fun i h h' st k => let ⟨o, ho, r⟩ := st; ⟨o, k it (by simp) o ho, r⟩
  item := by
    intro X hP hw hK hc i pins s σ H E I hf st hg
    subst hP hw hK
    obtain ⟨f0, f1, f2, f3, f4, f5⟩ := hf it (by simp)
    have W : Walks X.prog X.w X.A it [it] [it] x.cps.size (SignAt x) (fun i h => h.IsStrIter it ty x t i) := by
      rcases hty with e | e
      · rw [e]; exact Walks.strAscii (I.ok.hd hc) it x t
      · rw [e]; exact Walks.strWide (I.ok.hd hc) it x t
    have hno : ["enumerate", "zip", "dict_itemiterator", "dict_reverseitemiterator", "odict_iterator", "itertools.zip_longest", "itertools.pairwise"].contains ty = false := by
      rcases hty with e | e
      · rw [e]; decide
      · rw [e]; decide
    refine W.item i s _ _ hg st fun v h' tk hv st' kk => ?_
    obtain ⟨c, u, hcx, rfl⟩ := hv
    have I1 : Inv X pins σ H { s with heap := h', toks := tk } := I.turned (fun b o hb e => kk b o (by simpa using hb) e) f0 f1 f3 f4 f5
    obtain ⟨oi, e, cc, dd⟩ := id st'
    exact ⟨_, rfl, go_of (s := { s with heap := h', toks := tk }) e cc dd hno ⟨.str ⟨#[c]⟩, H, I1, ⟨u, rfl⟩, ⟨rfl, c, hcx, rfl⟩, st', fun b hb => (hf b hb).1⟩⟩
  done := by
    intro X hP hw hK hc i pins s σ H E I hf st hg
    subst hP hw hK
    obtain ⟨f0, f1, f2, f3, f4, f5⟩ := hf it (by simp)
    have hx : x.cps[i]? = none := Array.getElem?_eq_none hg
    rcases hty with e | e
    · rw [e] at st
      exact wpAny_pyNext_ascii_end (I.ok.hd hc) st hx fun h' eb => ⟨rfl, I.turned (t' := s.toks) (fun b o hb e => eb b o hb e) f0 f1 f3 f4 f5⟩
    · rw [e] at st
      exact wpAny_pyNext_wide_end (I.ok.hd hc) st hx fun h' eb => ⟨rfl, I.turned (t' := s.toks) (fun b o hb e => eb b o hb e) f0 f1 f3 f4 f5⟩
  self := fun A i s Q E st h => by
    rcases hty with e | e
    · rw [e] at st; exact wpAny_pyIter_striter_ascii st h
    · rw [e] at st; exact wpAny_pyIter_striter_wide st h
def iStr (te : TE) : TI := fun σ H R => te σ H fun v H1 => ∃ x, v = .str x ∧ R (Its x) H1
theorem pi_str {X : Cx} {tg e : Expr} {te : TE} (he : PE X e te) : PI X tg e (iStr te) := by
  intro pins s σ H R I h
  refine thn (he pins s σ H _ I h) fun v s1 ⟨y, H1, I1, r1, x, ex, q⟩ => ?_
  subst ex
  obtain ⟨t, rfl⟩ := r1
  cases ha : x.cps.all (· < 128)
  · exact wpAny_pyIter_wide ha (pi_one (tk := s1.toks) I1 _ (turn_str _ x t "str_iterator" (.inr rfl)) ⟨_, Heap.get?_push_size _ rfl, rfl, rfl⟩ q)
  · exact wpAny_pyIter_ascii ha (pi_one (tk := s1.toks) I1 _ (turn_str _ x t "str_ascii_iterator" (.inl rfl)) ⟨_, Heap.get?_push_size _ rfl, rfl, rfl⟩ q)

/-! ### a dict's keys: any dict's entries -/
section
variable {prog : Program} {w : World} {A : Around} {E : Value → Shared → Prop} {s : Shared}
theorem iter_keys {d : Addr} {o : Obj} {es : Array DictEntry} {ep : Nat} {Q : Value → Shared → Prop} (hd : (d == sysModules) = false) (ho : s.heap.get? d = some o) (hc : o.ExactDict) (hdat : o.data = .dict es ep)
    (hQ : Q (.ref s.heap.objs.size) { s with heap := s.heap.push { cls := .type "dict_keyiterator", data := .fields #[.ref d, .int 0 0, .int es.size 0, .int ep 0] } }) :
    wpAny (model prog w) A (pyIter (.ref d)) Q E s := by
  have hT : s.TypeIs (.ref d) "dict" := ⟨o, ho, hc.1⟩
  refine wpAny_pyIter_slot hT F.slot_dict_iter (wpAny_call_entry F.slot_dict_iter hT F.entry_dict_iter ?_ (F.args_dict_iter_1 _))
  unfold Builtin.«dict.__iter__»
  refine wpAny_bind ?_
  unfold Builtin.Dict.dictSlotNone
  refine wpAny_bind (wpAny_notOrdered_dict hT ?_)
  show wpAny _ _ (pure (Value.ref d)) _ _ s
  refine wpAny_pure ?_
  show wpAny _ _ (Builtin.Dict.showsAll d >>= _) _ _ s
  unfold Builtin.Dict.showsAll
  rw [if_neg (by rw [hd]; exact Bool.false_ne_true)]
  refine wpAny_bind (wpAny_pure ?_)
  refine wpAny_bind (wpAny_dictEntries ho hdat ?_)
  refine wpAny_bind (wpAny_dictEpoch ho hdat ?_)
  refine wpAny_bind (wpAny_newObj_type (wpAny_pure ⟨_, rfl, "dict_keyiterator", _, ⟨_, Heap.get?_push_size _ rfl, rfl⟩, F.slot_dict_keyiterator_next.lookup, ?_⟩))
  simpa [rawInt] using hQ
theorem next_key_item {it d : Addr} {i n ep : Nat} {od : Obj} {es : Array DictEntry} {en : DictEntry} {Q : Option Value → Shared → Prop} (hit : s.heap.IsKeyIter it d i n ep) (hod : s.heap.get? d = some od) (hdd : od.data = .dict es ep)
    (hsz : es.size = n) (hx : es[i]? = some en) (hQ : ∀ h', h'.IsKeyIter it d (i + 1) n ep → Heap.SameBut it s.heap h' → Q (some en.key) { s with heap := h' }) : wpAny (model prog w) A (pyNext (.ref it)) Q E s := by
  obtain ⟨o, ho, hc, hd⟩ := id hit
  unfold pyNext
  refine wpAny_bind (wpAny_attempt (wpAny_callSpecial?_slot (name := Str.ofString "__next__") hit.typeIs F.slot_dict_keyiterator_next
    (wpAny_call_entry F.slot_dict_keyiterator_next hit.typeIs F.entry_dict_keyiterator_next ?_ (F.args_dict_keyiterator_next_1 _))))
  refine wpAny_bind (wpAny_pure ?_)
  refine wpAny_bind ?_
  refine wpAny_bind ?_
  first | refine wpAny_bind (wpAny_typeNameOfWhole_keyiter hit.typeIs (wpAny_pure ?_)) | refine wpAny_bind (wpAny_typeNameOf_keyiter hit.typeIs (wpAny_pure ?_))
  refine wpAny_bind (wpAny_fieldsOf ho hd ?_)
  have hown : Builtin.Dict_items.ownsTuple "dict_keyiterator" = false := by decide
  simp only [hown, Bool.false_eq_true, if_false]
  show wpAny _ _ (if (Value.ref d == Value.none) = true then _ else _) _ _ s
  rw [if_neg (show ¬ ((Value.ref d == Value.none) = true) from Bool.false_ne_true)]
  refine wpAny_bind (wpAny_pure ?_)
  refine wpAny_bind (wpAny_dictEntries hod hdd ?_)
  rw [if_neg (by rw [hsz]; simp)]
  refine wpAny_bind (wpAny_pure ?_)
  refine wpAny_bind (wpAny_dictEpoch hod hdd ?_)
  rw [if_neg (by simp)]
  refine wpAny_pure ?_
  obtain ⟨hlt', hen⟩ := Array.getElem?_eq_some_iff.mp hx
  simp only [show ¬ ((i : Int) < 0) from by omega, if_false, Int.toNat_natCast, Array.getElem?_eq_getElem hlt']
  refine wpAny_bind ?_
  first | refine wpAny_bind (wpAny_typeNameOfWhole_keyiter hit.typeIs (wpAny_pure ?_)) | refine wpAny_bind (wpAny_typeNameOf_keyiter hit.typeIs (wpAny_pure ?_))
  refine wpAny_bind (wpAny_isOneOf_keyiter hit.typeIs ?_)
  show wpAny _ _ (setField (.ref it) 1 (rawInt ((i : Int) + 1)) >>= _) _ _ s
  refine wpAny_bind (wpAny_setField ho hd (by simp) ?_)
  have hit' : (s.heap.update it (Obj.mapFields (·.setIfInBounds 1 (rawInt ((i : Int) + 1))))).IsKeyIter it d (i + 1) n ep :=
    ⟨_, Heap.get?_update_self _ ho (Obj.isFreed_of_fields (Obj.data_mapFields hd _)), (Obj.cls_mapFields ..).trans hc, by rw [Obj.data_mapFields hd]; simp [rawInt]⟩
  refine wpAny_bind (wpAny_holding ?_)
  refine wpAny_bind (wpAny_isOneOf_keyiter (s := { s with heap := s.heap.update it (Obj.mapFields (·.setIfInBounds 1 (rawInt ((i : Int) + 1)))) }) hit'.typeIs ?_)
  show wpAny _ _ (pure es[i].key) _ _ _
  rw [hen]
  exact wpAny_pure (wpAny_pure ⟨_, rfl, wpAny_pure (hQ _ hit' (Heap.SameBut.update ..))⟩)
theorem next_key_end {it d : Addr} {i n ep : Nat} {od : Obj} {es : Array DictEntry} {Q : Option Value → Shared → Prop} (hh : A.handled = none) (hit : s.heap.IsKeyIter it d i n ep) (hod : s.heap.get? d = some od) (hdd : od.data = .dict es ep)
    (hsz : es.size = n) (hge : n ≤ i) (hQ : ∀ h', Heap.ExtBut it s.heap h' → Q none { s with heap := h' }) : wpAny (model prog w) A (pyNext (.ref it)) Q E s := by
  obtain ⟨o, ho, hc, hd⟩ := id hit
  unfold pyNext
  refine wpAny_bind (wpAny_attempt (wpAny_callSpecial?_slot (name := Str.ofString "__next__") hit.typeIs F.slot_dict_keyiterator_next
    (wpAny_call_entry F.slot_dict_keyiterator_next hit.typeIs F.entry_dict_keyiterator_next ?_ (F.args_dict_keyiterator_next_1 _))))
  refine wpAny_bind (wpAny_pure ?_)
  refine wpAny_bind ?_
  refine wpAny_bind ?_
  first | refine wpAny_bind (wpAny_typeNameOfWhole_keyiter hit.typeIs (wpAny_pure ?_)) | refine wpAny_bind (wpAny_typeNameOf_keyiter hit.typeIs (wpAny_pure ?_))
  refine wpAny_bind (wpAny_fieldsOf ho hd ?_)
  have hown : Builtin.Dict_items.ownsTuple "dict_keyiterator" = false := by decide
  simp only [hown, Bool.false_eq_true, if_false]
  show wpAny _ _ (if (Value.ref d == Value.none) = true then _ else _) _ _ s
  rw [if_neg (show ¬ ((Value.ref d == Value.none) = true) from Bool.false_ne_true)]
  refine wpAny_bind (wpAny_pure ?_)
  refine wpAny_bind (wpAny_dictEntries hod hdd ?_)
  rw [if_neg (by rw [hsz]; simp)]
  refine wpAny_bind (wpAny_pure ?_)
  refine wpAny_bind (wpAny_dictEpoch hod hdd ?_)
  rw [if_neg (by simp)]
  refine wpAny_pure ?_
  have hge' : es.size ≤ i := by rw [hsz]; exact hge
  simp only [show ¬ ((i : Int) < 0) from by omega, if_false, Int.toNat_natCast, Array.getElem?_eq_none hge']
  refine wpAny_bind ?_
  first | refine wpAny_bind (wpAny_typeNameOfWhole_keyiter hit.typeIs (wpAny_pure ?_)) | refine wpAny_bind (wpAny_typeNameOf_keyiter hit.typeIs (wpAny_pure ?_))
  show wpAny _ _ (setField (.ref it) 0 .none >>= _) _ _ s
  refine wpAny_bind (wpAny_setField ho hd (by simp) ?_)
  show wpAny _ _ (newExc (.type "StopIteration") [] >>= _) _ _ _
  refine wpAny_bind ?_
  simp only [newExc, newTuple]
  refine wpAny_bind (wpAny_newObj_type ?_ (by size_fits))
  refine wpAny_bind (m := firstArgMember _ _) (wpAny_of_eq (a := Value.none) (by first | rfl | (simp only [firstArgMember]; rfl)) ?_)
  refine wpAny_newObj_type ?_ (by size_fits)
  simp only [raiseNew]
  refine wpAny_bind (wpAny_handled ?_)
  rw [show A.in1.handled = none from hh]
  refine wpAny_bind (wpAny_pure (wpAny_throw ?_))
  refine wpAny_bind (wpAny_isInstance (T := "StopIteration") (b := true) ⟨_, Heap.get?_push_size _ rfl, rfl⟩ isSubtype_stop ?_)
  exact wpAny_pure (hQ _ (((Heap.SameBut.update ..).extBut.push _).push _))
end

/-! ### a locked dict -/
theorem kv_get {κ : Type} {kvs : List (κ × V)} {vs : List (κ × Value)} (h : KV kvs vs) : ∀ {i : Nat} {k : κ} {v : V}, kvs[i]? = some (k, v) → ∃ u, vs[i]? = some (k, u) ∧ RelV v u := by
  unfold KV at h
  induction h with
  | nil => intro i k v e; simp at e
  | @cons a b l₁ l₂ r t ih =>
    intro i k v e
    cases i with
    | zero =>
      simp only [List.getElem?_cons_zero, Option.some.injEq] at e
      subst e
      refine ⟨b.2, ?_, r.2⟩
      simp only [List.getElem?_cons_zero]
      exact congrArg some (Prod.ext r.1.symm rfl)
    | succ j =>
      simp only [List.getElem?_cons_succ] at e ⊢
      exact ih e
theorem paired_get {α β : Type} {G : α → β → Prop} {l₁ : List α} {l₂ : List β} (h : Paired G l₁ l₂) : ∀ {i : Nat} {a : α}, l₁[i]? = some a → ∃ b, l₂[i]? = some b ∧ G a b := by
  induction h with
  | nil => intro i a e; simp at e
  | @cons a b l₁ l₂ r t ih =>
    intro i a' e
    cases i with
    | zero =>
      simp only [List.getElem?_cons_zero, Option.some.injEq] at e
      subst e
      exact ⟨b, rfl, r⟩
    | succ j =>
      simp only [List.getElem?_cons_succ] at e ⊢
      exact ih e
theorem relV_key {k : Key} {u : Value} (h : keyIs k u = true) : RelV (kV k) u := by
  rcases keyIs_shape h with ⟨i, t, rfl, rfl⟩ | ⟨x, t, rfl, rfl⟩
  · exact ⟨t, rfl⟩
  · exact ⟨t, rfl⟩
section
variable {X : Cx} {pins : List (Addr × Obj)} {σ : St} {H : Hp} {s : Shared} {d : Addr} {o : Obj}
theorem Inv.frzK {kvs : List (Key × V)} (I : Inv X pins σ H s) (h : H d = some (.frz o (.dK kvs))) :
    (d == sysModules) = false ∧ s.heap.get? d = some o ∧ o.ExactDict ∧ ∃ (es : Array DictEntry) (ep : Nat) (vs : List (Key × Value)), o.data = .dict es ep ∧ es.size = kvs.length ∧ KV kvs vs ∧ s.heap.DictAt (mixKind X.prog X.w) d vs ep := by
  obtain ⟨hd, z, hs, vs, kv, o', es, ep, ho, hx, hdt, r⟩ := I.hok d _ h
  rw [hd] at ho
  cases ho
  refine ⟨hs, hd, hx, es, ep, vs, hdt, ?_, kv, o, es, hd, hx, hdt, r⟩
  have l1 := r.2.1.length
  have l2 : kvs.length = vs.length := Paired.length kv
  rw [Array.length_toList] at l1
  omega
/-- the same for tuple keys -/
theorem Inv.frzT {kvs : List (List Key × V)} (I : Inv X pins σ H s) (h : H d = some (.frz o (.dT kvs))) :
    (d == sysModules) = false ∧ s.heap.get? d = some o ∧ o.ExactDict ∧ ∃ (es : Array DictEntry) (ep : Nat), o.data = .dict es ep ∧ es.size = kvs.length ∧
      ∀ (i : Nat) (k : List Key) (v : V), kvs[i]? = some (k, v) → ∃ (en : DictEntry) (q : Addr), es[i]? = some en ∧ en.key = .ref q ∧ H q = some (.tup (k.map kV)) := by
  obtain ⟨hd, z, hs, xs, pr, o', es, ep, ho, hx, hdt, he, _⟩ := I.hok d _ h
  rw [hd] at ho
  cases ho
  refine ⟨hs, hd, hx, es, ep, hdt, ?_, fun i k v e => ?_⟩
  · have l1 : es.size = xs.length := size_of_entries he
    have l2 : kvs.length = xs.length := Paired.length pr
    omega
  · obtain ⟨b, hb, e1, e2, _⟩ := paired_get pr e
    have q := entry_at he i
    rw [hb] at q
    exact ⟨_, b.2.1, q, rfl, e2⟩
end

/-- the keys of the locked dict at d, in their order -/
def Itk (d : Addr) (o : Obj) (kvs : List (Key × V)) : It :=
  ⟨fun i H => H d = some (.frz o (.dK kvs)) ∧ i < kvs.length, fun i H x H' => H' = H ∧ ∃ k v, kvs[i]? = some (k, v) ∧ x = kV k, fun i H => H d = some (.frz o (.dK kvs)) ∧ kvs.length ≤ i⟩
/-- .. of tuple keys: the key's own tuple -/
def Itkt (d : Addr) (o : Obj) (kvs : List (List Key × V)) : It :=
  ⟨fun i H => H d = some (.frz o (.dT kvs)) ∧ i < kvs.length, fun i H x H' => H' = H ∧ ∃ (k : List Key) (v : V) (q : Addr), kvs[i]? = some (k, v) ∧ x = .ref q ∧ H q = some (.tup (k.map kV)), fun i H => H d = some (.frz o (.dT kvs)) ∧ kvs.length ≤ i⟩
theorem dict_ep {o : Obj} {es es' : Array DictEntry} {ep ep' : Nat} (h : o.data = .dict es ep) (h' : o.data = .dict es' ep') : es' = es ∧ ep' = ep := by
  rw [h] at h'
  cases h'
  exact ⟨rfl, rfl⟩
section
variable {P : Program} {w : World} {K : PySem.W.Frag} {tg : Expr} {d : Addr} {o : Obj} {es : Array DictEntry} {ep : Nat}
theorem turn_keys {kvs : List (Key × V)} (it : Addr) (hod : o.data = .dict es ep) : Turn P w K tg (Itk d o kvs) [it] it (fun i h => h.IsKeyIter it d i kvs.length ep) where
  mem := by simp
  obj := fun i h st b hb => by
    have e : b = it := by simpa using hb
    subst e
    obtain ⟨oi, e, c, dd⟩ := st
    exact ⟨oi, e, fun v z => by rw [dd] at z; cases z⟩
  keep := fun i h h' st k => st.at fun oi e => k it (by simp) oi e
  item := by
    intro X hP hw hK hc i pins s σ H E I hf st hg
    subst hP hw hK
    obtain ⟨hd, hi⟩ := hg
    obtain ⟨f0, f1, f2, f3, f4, f5⟩ := hf it (by simp)
    obtain ⟨hs, hgd, hx, es', ep', vs, hdt, hsz, kv, hm⟩ := I.frzK hd
    obtain ⟨rfl, rfl⟩ := dict_ep hod hdt
    obtain ⟨⟨k, v⟩, hkv⟩ : ∃ p, kvs[i]? = some p := ⟨kvs[i], List.getElem?_eq_getElem hi⟩
    obtain ⟨u, hu, ru⟩ := kv_get kv hkv
    have hl : kvs.length = vs.length := Paired.length kv
    rw [hl] at st
    refine wpAny_pyNext_dict_item st hm hu fun key h' hkey st' sb => ?_
    have I1 : Inv X pins σ H { s with heap := h' } := I.turned (t' := s.toks) (fun b ob hb e => (sb.2 b hb).trans e) f0 f1 f3 f4 f5
    obtain ⟨oi, e, c, dd⟩ := id st'
    refine ⟨key, rfl, go_of (s := { s with heap := h' }) e c dd (by decide) ⟨kV k, H, I1, relV_key (show keyIs k key = true from hkey), ⟨rfl, k, v, hkv, rfl⟩, ?_, fun b hb => (hf b hb).1⟩⟩
    show h'.IsKeyIter it d (i + 1) kvs.length _
    rw [hl]
    exact st'
  done := by
    intro X hP hw hK hc i pins s σ H E I hf st hg
    subst hP hw hK
    obtain ⟨hd, hi⟩ := hg
    obtain ⟨f0, f1, f2, f3, f4, f5⟩ := hf it (by simp)
    obtain ⟨hs, hgd, hx, es', ep', vs, hdt, hsz, kv, hm⟩ := I.frzK hd
    obtain ⟨rfl, rfl⟩ := dict_ep hod hdt
    exact next_key_end (I.ok.hd hc) st hgd hdt hsz hi fun h' eb => ⟨rfl, I.turned (t' := s.toks) (fun b ob hb e => eb b ob hb e) f0 f1 f3 f4 f5⟩
  self := fun A i s Q E st h => wpAny_pyIter_keyiter st h
theorem turn_keysT {kvs : List (List Key × V)} (it : Addr) (hod : o.data = .dict es ep) : Turn P w K tg (Itkt d o kvs) [it] it (fun i h => h.IsKeyIter it d i kvs.length ep) where
  mem := by simp
  obj := fun i h st b hb => by
    have e : b = it := by simpa using hb
    subst e
    obtain ⟨oi, e, c, dd⟩ := st
    exact ⟨oi, e, fun v z => by rw [dd] at z; cases z⟩
  keep := fun i h h' st k => st.at fun oi e => k it (by simp) oi e
  item := by
    intro X hP hw hK hc i pins s σ H E I hf st hg
    subst hP hw hK
    obtain ⟨hd, hi⟩ := hg
    obtain ⟨f0, f1, f2, f3, f4, f5⟩ := hf it (by simp)
    obtain ⟨hs, hgd, hx, es', ep', hdt, hsz, ent⟩ := I.frzT hd
    obtain ⟨rfl, rfl⟩ := dict_ep hod hdt
    obtain ⟨⟨k, v⟩, hkv⟩ : ∃ p, kvs[i]? = some p := ⟨kvs[i], List.getElem?_eq_getElem hi⟩
    obtain ⟨en, q, hen, hkey, hq⟩ := ent i k v hkv
    refine next_key_item st hgd hdt hsz hen fun h' st' sb => ?_
    have I1 : Inv X pins σ H { s with heap := h' } := I.turned (t' := s.toks) (fun b ob hb e => (sb.2 b hb).trans e) f0 f1 f3 f4 f5
    obtain ⟨oi, e, c, dd⟩ := id st'
    exact ⟨en.key, rfl, go_of (s := { s with heap := h' }) e c dd (by decide) ⟨.ref q, H, I1, hkey, ⟨rfl, k, v, q, hkv, rfl, hq⟩, st', fun b hb => (hf b hb).1⟩⟩
  done := by
    intro X hP hw hK hc i pins s σ H E I hf st hg
    subst hP hw hK
    obtain ⟨hd, hi⟩ := hg
    obtain ⟨f0, f1, f2, f3, f4, f5⟩ := hf it (by simp)
    obtain ⟨hs, hgd, hx, es', ep', hdt, hsz, ent⟩ := I.frzT hd
    obtain ⟨rfl, rfl⟩ := dict_ep hod hdt
    exact next_key_end (I.ok.hd hc) st hgd hdt hsz hi fun h' eb => ⟨rfl, I.turned (t' := s.toks) (fun b ob hb e => eb b ob hb e) f0 f1 f3 f4 f5⟩
  self := fun A i s Q E st h => by
    refine wpAny_pyIter_slot st.typeIs F.slot_dict_keyiterator_iter (wpAny_call_entry F.slot_dict_keyiterator_iter st.typeIs F.entry_dict_keyiterator_iter ?_ (F.args_dict_keyiterator_iter_1 _))
    show wpAny _ _ (ret (.ref it)) _ _ s
    exact wpAny_pure ⟨_, rfl, "dict_keyiterator", _, st.typeIs, F.slot_dict_keyiterator_next.lookup, h⟩
end

/-! ### for k in d, d.keys(), d.values(), d.items() -/
/-- the dict is locked (tLock, or by the caller) -/
def iKeys (td : TE) : TI := fun σ H R => td σ H fun x H1 => ∃ d o, x = .ref d ∧ ((∃ kvs, H1 d = some (.frz o (.dK kvs)) ∧ R (Itk d o kvs) H1) ∨ ∃ kvs, H1 d = some (.frz o (.dT kvs)) ∧ R (Itkt d o kvs) H1)
section
variable {X : Cx} {tg e : Expr} {td : TE} {apos cpos : Pos}
theorem pi_keys (he : PE X e td) : PI X tg e (iKeys td) := by
  intro pins s σ H R I h
  refine thn (he pins s σ H _ I h) fun u s1 ⟨x, H1, I1, rx, d, o, ex, q⟩ => ?_
  subst ex
  obtain rfl : u = Value.ref d := rx
  rcases q with ⟨kvs, hd, q⟩ | ⟨kvs, hd, q⟩
  · obtain ⟨hs, hgd, hx, es, ep, vs, hdt, hsz, kv, hm⟩ := I1.frzK hd
    refine iter_keys hs hgd hx hdt (pi_one (tk := s1.toks) I1 _ (turn_keys _ hdt) ⟨_, Heap.get?_push_size _ rfl, rfl, ?_⟩ q)
    rw [hsz] <;> rfl
  · obtain ⟨hs, hgd, hx, es, ep, hdt, hsz, ent⟩ := I1.frzT hd
    refine iter_keys hs hgd hx hdt (pi_one (tk := s1.toks) I1 _ (turn_keysT _ hdt) ⟨_, Heap.get?_push_size _ rfl, rfl, ?_⟩ q)
    rw [hsz] <;> rfl
end

/-! ### enumerate(list) -/
/-- the list at a as it stands at each turn, each item in a new pair -/
def Ite (K : PySem.W.Frag) (a : Addr) : It :=
  ⟨fun i H => ∃ (xs : List V) (x : V), SqL K H a xs ∧ xs[i]? = some x, fun i H v H' => ∃ T x, v = .ref T ∧ H T = none ∧ H' = upd H T (.tup [.int (i : Nat), x]) ∧ ∀ xs, SqL K H a xs → xs[i]? = some x, fun i H => ∃ xs : List V, SqL K H a xs ∧ xs.length ≤ i⟩
theorem turn_enum {P : Program} {w : World} {K : PySem.W.Frag} {elts : List Expr} {kk : Nat} {tpos : Pos} (a e it : Addr) :
    Turn P w K (.Tuple elts kk tpos) (Ite K a) [e, it] e (fun i h => (∃ old, IsEnum h e it ((i : Nat) : Int) old) ∧ h.IsListIter it a i ∧ e ≠ it) where
  mem := by simp
  obj := fun i h st b hb => by
    obtain ⟨⟨old, he⟩, ⟨o, ho, hc, hd⟩, _⟩ := st
    have e' : b = e ∨ b = it := by simpa using hb
    rcases e' with z | z
    · rw [z]; exact ⟨_, he, fun v q => nomatch q⟩
    · rw [z]; exact ⟨o, ho, fun v q => by rw [hd] at q; cases q⟩
  keep := fun i h h' st k => let ⟨⟨old, he⟩, hi, hne⟩ := st; ⟨⟨old, k e (by simp) _ he⟩, hi.at fun o q => k it (by simp) o q, hne⟩
  item := by
    intro X hP hw hK hc i pins s σ H E I hf st hg
    subst hP hw hK
    obtain ⟨⟨old, he⟩, hit, hne⟩ := st
    obtain ⟨xs, x, hq, hx⟩ := hg
    obtain ⟨its, rv, p, hz⟩ := I.list hq
    obtain ⟨u, hu, ru⟩ := rv.get hx
    have hel : e < s.heap.objs.size := Heap.lt_size he
    have hil : it < s.heap.objs.size := by obtain ⟨_, q, _⟩ := hit; exact Heap.lt_size q
    refine wpAny_pyNext_enum_item he hit p.isList (x := u) (by simpa using hu) hne fun h' ho hit' hT hsz hk => ?_
    refine ⟨_, rfl, wpAny_letOwnedTupleGo_enum (s := { s with heap := h', toks := s.toks + 1 }) ho fun h'' he' sb => ?_⟩
    have hT2 : h''.get? s.heap.objs.size = some { cls := .type "tuple", data := .seq #[.int i s.toks, u] } := (sb.2 _ (Nat.ne_of_gt hel)).trans hT
    have new : ObjOk X.prog X.w (upd H s.heap.objs.size (.tup [.int (i : Nat), x])) h'' s.heap.objs.size (.tup [.int (i : Nat), x]) :=
      ⟨by show 2 ≤ sizeLine; decide, [.int i s.toks, u], .cons ⟨_, rfl⟩ (.cons ru .nil), ⟨_, hT2, rfl, _, rfl⟩⟩
    have I1 : Inv X pins σ (upd H s.heap.objs.size (.tup [.int (i : Nat), x])) { s with heap := h'', toks := s.toks + 1 } :=
      I.turnedNew (ch := [e, it]) (fun b ob hb q => (sb.2 b (fun z => hb (by simp [z]))).trans (hk b ob (fun z => hb (by simp [z])) (fun z => hb (by simp [z])) q)) hf (Nat.le_refl _) new
    refine ⟨.ref s.heap.objs.size, _, I1, rfl, ⟨_, x, rfl, I.hok.fresh (Nat.le_refl _), rfl, fun ys hy => by rw [I.list_inj hy hq]; exact hx⟩, ⟨⟨u, ?_⟩, hit'.at fun o q => (sb.2 it (Ne.symm hne)).trans q, hne⟩, fun b hb => ?_⟩
    · have e1 : ((i + 1 : Nat) : Int) = (i : Int) + 1 := by omega
      rw [e1]; exact he'
    · have hb' : b < s.heap.objs.size := by
        have e' : b = e ∨ b = it := by simpa using hb
        rcases e' with z | z
        · rw [z]; exact hel
        · rw [z]; exact hil
      rw [upd_ne (Nat.ne_of_lt hb')]
      exact (hf b hb).1
  done := by
    intro X hP hw hK hc i pins s σ H E I hf st hg
    subst hP hw hK
    obtain ⟨⟨old, he⟩, hit, hne⟩ := st
    obtain ⟨xs, hq, hx⟩ := hg
    obtain ⟨its, rv, p, hz⟩ := I.list hq
    obtain ⟨f0, f1, f2, f3, f4, f5⟩ := hf it (by simp)
    have hl := rv.length
    exact wpAny_pyNext_enum_end (I.ok.hd hc) he hit p.isList (by simp; omega) fun h' eb => ⟨rfl, I.turned (t' := s.toks) (fun b o hb q => eb b o hb q) f0 f1 f3 f4 f5⟩
  self := fun A i s Q E st h => let ⟨⟨_, he⟩, _⟩ := st; wpAny_pyIter_enum he h
def iEnum (K : PySem.W.Frag) (ta : TA) : TI := fun σ H R => ta σ H fun vs H1 => ∃ a xs, vs = [.ref a] ∧ SqL K H1 a xs ∧ R (Ite K a) H1
theorem pi_enum {X : Cx} {e : Expr} {ta : TA} {p pos tpos : Pos} {elts : List Expr} {kk : Nat} (hg : Gl X "enumerate") (hm : X.mg "enumerate" = none) (ha : PA X [e] ta) (hs : starEach [e] X.env = [(false, eval e X.env)] := by rfl) :
    PI X (.Tuple elts kk tpos) (.Call (.Name "enumerate" p) [e] [] pos) (iEnum X.K ta) := by
  intro pins s σ H R I h
  refine Call_ (ld_blt I hg hm boot_enumerate (PyProof.Rows.callWith_type1 (thn (ha pos pins s σ H _ I h) fun us s1 ⟨vs, H1, I1, r1, q1⟩ => ?_) hs rfl))
  obtain ⟨a, xs, ex, hq, q⟩ := q1
  subst ex
  cases r1 with
  | cons r rr =>
    cases rr
    cases r
    obtain ⟨its, rv, p', hz⟩ := I1.list hq
    refine call_enumerate_list p'.isList fun h' he hit hsz hk => wpAny_pyIter_enum he ?_
    have I2 : Inv X pins σ H1 { s1 with heap := h' } := I1.kept (t' := s1.toks) hk
    refine ⟨s1.heap.objs.size + 1, [s1.heap.objs.size + 1, s1.heap.objs.size], _, _, H1, rfl, I2, turn_enum a (s1.heap.objs.size + 1) s1.heap.objs.size, ⟨⟨.none, he⟩, hit, Nat.succ_ne_self _⟩, fun b hb => ?_, q⟩
    have e' : b = s1.heap.objs.size + 1 ∨ b = s1.heap.objs.size := by simpa using hb
    have hle : s1.heap.objs.size ≤ b := by
      rcases e' with z | z
      · rw [z]; exact Nat.le_add_right _ _
      · rw [z]; exact Nat.le_refl _
    exact I1.fpOk hle (I1.hok.fresh hle)
/-! ### zip(list, list) -/
end L2

section 
namespace Bits
open PySem PyProof.Rows








end Bits
end 

section 
namespace TL
open PySem PySem.Builtin PySem.Builtin.Str PySem.StrLaws

abbrev tl (x : Str) : List Nat := x.cps.toList
theorem len_tl (x : Str) : x.length = (tl x).length := by simp [tl, Str.length]
theorem ext_tl {x y : Str} (h : tl x = tl y) : x = y := Str.ext' (Array.toList_inj.mp h)
theorem tl_append (x y : Str) : tl (x ++ y) = tl x ++ tl y := by
  show (x ++ y).cps.toList = _
  rw [Str.cps_append, Array.toList_append]

/-! ### the list functions -/




/-! ### the model's split and partition are these -/




/-! ### computing spl and par -/

/-- joined lists -/
def joinL (S : List Nat) : List (List Nat) → List Nat
  | [] => []
  | [p] => p
  | p :: q :: r => p ++ (S ++ joinL S (q :: r))
theorem tl_join (y : Str) : ∀ parts : List Str, tl (Str.join y parts) = joinL (tl y) (parts.map tl)
  | [] => rfl
  | [_] => rfl
  | x :: z :: r => by
    show tl (x ++ y ++ Str.join y (z :: r)) = tl x ++ (tl y ++ joinL (tl y) ((z :: r).map tl))
    rw [tl_append, tl_append, tl_join y (z :: r), List.append_assoc]
theorem join_eq (y : Str) (parts : List Str) : Txt.join y parts = Str.join y parts := glued_eq_join y parts

/-! ### digits -/
/-- the signs of a number -/
def numL (n : Nat) : List Nat := (Nat.toDigits 10 n).map Char.toNat
theorem tl_num (n : Nat) : tl (Str.ofString (toString ((n : Nat) : Int))) = numL n := PySem.W.KIN.signs_num n
theorem digitChar_nat : ∀ d : Nat, d < 10 → (Nat.digitChar d).toNat = 48 + d := by decide
theorem numL_lt {n : Nat} (h : n < 10) : numL n = [48 + n] := by
  unfold numL
  rw [Nat.toDigits_of_lt_base h]
  show [(Nat.digitChar n).toNat] = _
  rw [digitChar_nat n h]
theorem numL_step {n : Nat} (h : 10 ≤ n) : numL n = numL (n / 10) ++ [48 + n % 10] := by
  have hm : n % 10 < 10 := Nat.mod_lt n (by decide)
  have t : Nat.toDigits 10 (n / 10) ++ Nat.toDigits 10 (n % 10) = Nat.toDigits 10 (10 * (n / 10) + n % 10) := Nat.toDigits_append_toDigits (by decide) (by omega) hm
  rw [Nat.div_add_mod] at t
  show (Nat.toDigits 10 n).map Char.toNat = _
  rw [← t, List.map_append, Nat.toDigits_of_lt_base hm]
  show (Nat.toDigits 10 (n / 10)).map Char.toNat ++ [(Nat.digitChar (n % 10)).toNat] = _
  rw [digitChar_nat _ hm] <;> rfl
theorem numL_digits (n : Nat) : NumText.AllDigits (numL n) := by
  induction n using Nat.strongRecOn with
  | _ n ih =>
    by_cases h : n < 10
    · rw [numL_lt h]
      intro c hc
      rw [List.mem_singleton.mp hc]
      omega
    · rw [numL_step (by omega)]
      intro c hc
      rcases List.mem_append.mp hc with hc | hc
      · exact ih (n / 10) (by omega) c hc
      · have hm : n % 10 < 10 := Nat.mod_lt n (by decide)
        rw [List.mem_singleton.mp hc]
        omega
theorem numL_ne (n : Nat) : numL n ≠ [] := by
  by_cases h : n < 10
  · rw [numL_lt h]
    simp
  · rw [numL_step (by omega)]
    simp
theorem numL_val (n : Nat) : NumText.digitsVal (numL n) = n := PySem.W.KIN.val_back n
/-- int(str(n)) -/
theorem int_num {n : Nat} (h : (numL n).length ≤ 4300) : intText? (Str.ofString (toString ((n : Nat) : Int))) = some (n : Int) := by
  have e := intText_digits (x := Str.ofString (toString ((n : Nat) : Int))) (by rw [show (Str.ofString (toString ((n : Nat) : Int))).cps.toList = numL n from tl_num n]; exact numL_digits n)
    (by rw [show (Str.ofString (toString ((n : Nat) : Int))).cps.toList = numL n from tl_num n]; exact numL_ne n) (by rw [len_tl, tl_num]; exact h)
  rw [show (Str.ofString (toString ((n : Nat) : Int))).cps.toList = numL n from tl_num n, numL_val] at e
  exact e

/-! ### words: x.split() -/
end TL
end 

namespace L2
open PySem PySem.Spec PyProof.Rows


theorem strs_of_vals : ∀ {ys : List Str} {us : List Value}, Vals (ys.map V.str) us → StrsAre us ys
  | [], _, .nil => .nil
  | y :: ys, _, .cons r t => by
    obtain ⟨k, rfl⟩ := r
    exact .cons y k (strs_of_vals t)


section
variable {X : Cx} {pins : List (Addr × Obj)} {σ : St} {H : Hp} {s : Shared} {Q : VK}
end

section
variable {X : Cx}




/-- sep.join(a list | a tuple of texts) -/
theorem mt_join : MtR X "str.join" (fun x xs H Q => ∃ a p, ∃ ys : List Str, x = .str a ∧ xs = [.ref p] ∧ (SqL X.K H p (ys.map V.str) ∨ SqT X.K H p (ys.map V.str)) ∧
    (ys.map (·.length)).sum + ys.length * a.length ≤ 16777216 ∧ Q (.str (Txt.join a ys)) H) := by
  intro pins s σ H x xs v us Q I rx rs h
  obtain ⟨a, p, ys, rfl, rfl, hp, hz, h⟩ := h
  obtain ⟨t, rfl⟩ := rx
  cases rs with
  | cons r1 rs =>
    cases rs
    cases r1
    rcases hp with hp | hp
    · obtain ⟨its, r, ⟨o, n, ho, hc, _, hd⟩, _⟩ := I.list hp
      exact PyProof.Rows.join_list (items := its.toArray) ⟨o, ho, hc, n, hd⟩ (by rw [List.toList_toArray]; exact strs_of_vals r) hz fun t' k => ⟨.str _, H, I.tok k, ⟨t', rfl⟩, h⟩
    · obtain ⟨its, r, ht, _⟩ := I.tuple hp
      exact PyProof.Rows.join_tuple (items := its.toArray) ht (by rw [List.toList_toArray]; exact strs_of_vals r) hz fun t' k => ⟨.str _, H, I.tok k, ⟨t', rfl⟩, h⟩

/-! ### of a text alone -/

/-! ### of a text and a text -/
theorem mt1 {id : String} {g : Str → Str → V} (rule : ∀ (a b : Str) (t u : Tok) (s : Shared) (Q : Value → Shared → Prop), (∀ (v : Value) (k : Nat), RelV (g a b) v → Q v { s with toks := k }) →
    wpAny (model X.prog X.w) X.A (call (.builtin id) [.str a t, .str b u]) Q X.xe s) : MtR X id (fun x xs H Q => ∃ a b, x = .str a ∧ xs = [.str b] ∧ Q (g a b) H) := by
  intro pins s σ H x xs v us Q I rx rs h
  obtain ⟨a, b, rfl, rfl, h⟩ := h
  obtain ⟨t, rfl⟩ := rx
  cases rs with
  | cons r1 rs =>
    cases rs
    obtain ⟨u, rfl⟩ := r1
    exact rule a b t u s _ fun v k r => ⟨g a b, H, I.tok k, r, h⟩
theorem mt_count : MtR X "str.count" (fun x xs H Q => ∃ a b, x = .str a ∧ xs = [.str b] ∧ Q (.int (Txt.count a b)) H) :=
  mt1 (g := fun a b => .int (Txt.count a b)) fun _ _ _ _ s _ h => PySem.SC.count (h _ (s.toks + 1) ⟨_, rfl⟩)

/-- int(text) -/
theorem call_int_str : CallR X (.type "int") (fun xs H Q => ∃ a n, xs = [.str a] ∧ PySem.intText? a = some n ∧ a.length ≤ 640 ∧ Q (.int n) H) := by
  intro pins s σ H xs us Q I rs h
  obtain ⟨a, n, rfl, hn, hl, h⟩ := h
  cases rs with
  | cons r1 rs =>
    cases rs
    obtain ⟨t, rfl⟩ := r1
    exact PySem.W.KIN.call_text hn hl ⟨.int n, H, I.tok _, ⟨_, rfl⟩, h⟩
end

section
variable {X : Cx} {o e : Expr} {to te : TE}
def tM1 (r : V → List V → Hp → VK → Prop) (to te : TE) : TE := fun σ H Q => to σ H fun x H1 => (∃ a, x = .str a) ∧ te σ H1 fun y H2 => r x [y] H2 Q
theorem pe_m1 {id : String} {name : Str} {apos pos : Pos} {r : V → List V → Hp → VK → Prop} (slot : Slot "str" name id) (ty : typeOf (.builtin id) = pure (.type "method_descriptor")) (rule : MtR X id r) (ho : PE X o to) (he : PE X e te)
    (hs : starEach [e] X.env = [(false, eval e X.env)] := by rfl) (hbase : attributeBase o name X.env (eval o X.env) = eval o X.env := by rfl) (hline : (apos.endLine == pos.line) = true := by rfl) :
    PE X (.Call (.Attribute o name apos) [e] [] pos) (tM1 r to te) := by
  intro pins s σ H Q I h
  refine PySem.Call_method1 hbase hs hline (thn (ho pins s σ H _ I h) fun v s1 ⟨x, H1, I1, r1, q1⟩ => ?_)
  obtain ⟨⟨a, rfl⟩, q1⟩ := q1
  obtain ⟨t, rfl⟩ := _root_.id r1
  refine ⟨"str", _, F.plainAttrs_str, slot, ty, typeIs_str _ _ _, (fun _ e => nomatch e), Calls.callWith_builtin rfl (Calls.evalArgs_plain (Calls.spliced_cons ?_))⟩
  exact thn (he pins s1 σ H1 _ I1 q1) fun u s2 ⟨y, H2, I2, r2, q2⟩ => Calls.spliced_nil (rule pins s2 σ H2 _ [y] _ [u] Q I2 r1 (.cons r2 .nil) q2)

theorem pe_join {apos pos : Pos} (ho : PE X o to) (he : PE X e te) (hs : starEach [e] X.env = [(false, eval e X.env)] := by rfl) (hbase : attributeBase o "join" X.env (eval o X.env) = eval o X.env := by rfl) (hline : (apos.endLine == pos.line) = true := by rfl) :
    PE X (.Call (.Attribute o "join" apos) [e] [] pos) (tM1 (fun x xs H Q => ∃ a p, ∃ ys : List Str, x = .str a ∧ xs = [.ref p] ∧ (SqL X.K H p (ys.map V.str) ∨ SqT X.K H p (ys.map V.str)) ∧
      (ys.map (·.length)).sum + ys.length * a.length ≤ 16777216 ∧ Q (.str (Txt.join a ys)) H) to te) :=
  pe_m1 F.slot_str_join F.type_str_join mt_join ho he hs hbase hline
end
end L2

namespace L2
open PySem PySem.Spec PyProof.Rows

section
variable {X : Cx}
end

/-! ### slices of a text -/
theorem IsPart.raw {v : Value} {o : Option Int} (p : IsPart v o) : ∃ l : Option (Int × Tok), v = partValue l ∧ l.map (·.1) = o := by
  cases p with
  | none => exact ⟨none, rfl, rfl⟩
  | int i t => exact ⟨some (i, t), rfl, rfl⟩

/-- a part, clipped, as the text's slice reckons it -/
def clipS (n d : Nat) : Option Int → Int
  | none => (d : Int)
  | some i => max 0 (min (if i < 0 then i + (n : Int) else i) (n : Int))
theorem clipS_eq (n d : Nat) (o : Option Int) : clipS n d o = ((HT.sIx n d o : Nat) : Int) := by
  cases o with
  | none => rfl
  | some v =>
    show max (0 : Int) (min (if v < 0 then v + (n : Int) else v) (n : Int)) = (((if v < 0 then (v + (n : Int)).toNat else min v.toNat n) : Nat) : Int)
    by_cases hv : v < 0
    · simp only [if_pos hv]
      omega
    · simp only [if_neg hv]
      omega
theorem sidx_clip (a b : Option Int) (n : Nat) : Builtin.Str.strSliceIndices a b 1 n = sliceRange (clipS n 0 a) (clipS n n b) 1 := by
  have h1 : ((1 : Int) > 0) = True := by simp
  cases a <;> cases b <;> first
    | rfl
    | (simp only [Builtin.Str.strSliceIndices, clipS, h1, if_true]; rfl)
    | simp [Builtin.Str.strSliceIndices, clipS]
theorem sidx (a b : Option Int) (n : Nat) : Builtin.Str.strSliceIndices a b 1 n = (List.range (HT.sIx n n b - HT.sIx n 0 a)).map (fun k => HT.sIx n 0 a + k) := by
  rw [sidx_clip, clipS_eq, clipS_eq]
  generalize HT.sIx n 0 a = p
  generalize HT.sIx n n b = q
  simp only [sliceRange, show ((1 : Int) > 0) = True from by simp, if_true]
  by_cases hlt : (p : Int) < q
  · have e3 : (((q : Int) - p + 1 - 1) / 1).toNat = q - p := by first | omega | (simp; done) | (simp; omega)
    simp only [hlt, if_true, e3]
    refine List.map_congr_left fun k _ => ?_
    omega
  · have : q - p = 0 := by omega
    simp [hlt, this]

/-- z[lo:hi] -/
def cutS (z : Str) (lo hi : Option Int) : Str :=
  ⟨((z.cps.toList.drop (HT.sIx z.length 0 lo)).take (HT.sIx z.length z.length hi - HT.sIx z.length 0 lo)).toArray⟩
theorem sliceText_cut (z : Str) (lo hi : Option Int) : PySem.StrLaws.sliceText z lo hi = cutS z lo hi := by
  have h1 : HT.sIx z.length 0 lo ≤ z.length := HT.sIx_le _ _ (Nat.zero_le _) _
  have h2 : HT.sIx z.length z.length hi ≤ z.length := HT.sIx_le _ _ (Nat.le_refl _) _
  have hp : HT.sIx z.length 0 lo ≤ max (HT.sIx z.length 0 lo) (HT.sIx z.length z.length hi) := Nat.le_max_left _ _
  have hq : max (HT.sIx z.length 0 lo) (HT.sIx z.length z.length hi) ≤ z.length := Nat.max_le.mpr ⟨h1, h2⟩
  have hd : max (HT.sIx z.length 0 lo) (HT.sIx z.length z.length hi) - HT.sIx z.length 0 lo = HT.sIx z.length z.length hi - HT.sIx z.length 0 lo := by omega
  have e : Builtin.Str.strSliceIndices lo hi 1 z.length =
      Builtin.Str.strSliceIndices (some ((HT.sIx z.length 0 lo : Nat) : Int)) (some ((max (HT.sIx z.length 0 lo) (HT.sIx z.length z.length hi) : Nat) : Int)) 1 z.length := by
    rw [PySem.StrLaws.strSliceIndices_plain hp hq, hd, sidx]
  have e2 : PySem.StrLaws.sliceText z lo hi =
      PySem.StrLaws.sliceText z (some ((HT.sIx z.length 0 lo : Nat) : Int)) (some ((max (HT.sIx z.length 0 lo) (HT.sIx z.length z.length hi) : Nat) : Int)) := by
    unfold PySem.StrLaws.sliceText
    rw [e]
  rw [e2, PySem.StrLaws.sliceText_nat z hp hq, hd]
  rfl
theorem cutS_length (z : Str) (lo hi : Option Int) : (cutS z lo hi).length ≤ z.length := by
  show (((z.cps.toList.drop (HT.sIx z.length 0 lo)).take (HT.sIx z.length z.length hi - HT.sIx z.length 0 lo)).toArray).size ≤ z.cps.size
  rw [List.size_toArray, List.length_take, List.length_drop, Array.length_toList]
  omega
def rSlS : V → Option Int → Option Int → Hp → VK → Prop := fun x lo hi H Q => ∃ z, x = .str z ∧ z.length ≤ sizeLine ∧ Q (.str (cutS z lo hi)) H
theorem sl_str {X : Cx} : SlR X rSlS := by
  intro pins s σ H x v vl vu lo hi sl Q I rx hs pl pu h
  obtain ⟨z, rfl, hz, q⟩ := h
  obtain ⟨t, rfl⟩ := rx
  obtain ⟨os, hos, hcs, hds⟩ := hs
  obtain ⟨l, rfl, rfl⟩ := IsPart.raw pl
  obtain ⟨u, rfl, rfl⟩ := IsPart.raw pu
  refine ⟨"str", _, F.slot_str_getitem.lookup, typeIs_str _ _ _, ?_⟩
  refine wpAny_getItem_str_slice (l := l) (u := u) (st := none) ⟨os, hos, hcs, hds⟩ rfl ?_
  have hl : (PySem.StrLaws.sliceText z (l.map (·.1)) (u.map (·.1))).length ≤ sizeLine := by
    rw [sliceText_cut]
    exact Nat.le_trans (cutS_length z _ _) hz
  rw [← sliceText_cut] at q
  unfold PySem.StrLaws.sliceText at q hl
  show Made.post (if ((1 : Int) == 1 && (Builtin.Str.strSliceIndices (l.map (·.1)) (u.map (·.1)) 1 z.length).length == z.length) = true then Made.val (.str z t)
    else Made.str ⟨((Builtin.Str.strSliceIndices (l.map (·.1)) (u.map (·.1)) 1 z.length).filterMap (z.cps[·]?)).toArray⟩) (EP X pins σ Q) s
  by_cases c : ((1 : Int) == 1 && (Builtin.Str.strSliceIndices (l.map (·.1)) (u.map (·.1)) 1 z.length).length == z.length) = true
  · rw [if_pos c] at q ⊢
    exact ⟨.str z, H, I, ⟨t, rfl⟩, q⟩
  · rw [if_neg c] at q hl ⊢
    exact ⟨hl, .str _, H, I.tok _, ⟨_, rfl⟩, q⟩
end L2

namespace Att
open PySem PySem.W PySem.Calls PyProof.Rows

/-! ### the script -/



/-! ### the attachment: holds_open's last premise (the goal 'hc' behind k_head) from a wpAny of the law's body -/



/-! ### rules over ANY heap (no ledger) from facts about the written part K: the library's own take a ledger (News) for what they write -/
section
variable {prog : Program} {w : World} {A : Around} {E : Value → Shared → Prop} {s : Shared} {K : Frag}





/-! the whole heap as the ledger: makes every rule that writes through a ledger a rule over any heap -/

end
end Att

namespace L2
open PySem PySem.Spec PyProof.Rows



end L2

namespace L2
open PySem PySem.Spec PyProof.Rows


end L2

/- THE LAST THEOREM (shape; LID, My.* are yours):
   My.Adr: a structure of the addresses that your layer names (classes, functions); My.Txt K t: a structure (Prop) of the equations over K;
   My.txt_mk : {K} {implicit addresses ..} (e1 : nsIn K mainGlobals "law" = some (some (.ref f))) (e2 : K.lookup f = some ⟨oc, od, .func (fnOf "law" "law" params body scope dV kV doc pm an cdv ct), sl⟩) (e3 : codeIn K cdv "law" = true) .. : ∃ t, My.Txt K t

set_option maxRecDepth 100000 in
set_option maxHeartbeats 0 in
theorem PySem.Challenge.cw_LID_holds : PySem.Challenge.rw_LID.Holds := by
  w_on; o_law; k_head; (case hw => w_witness2)
  k_fill
  refine L2.walk_of (l := PySem.Challenge.rw_LID) (n := 63) (k := 40) (x := "script") (CX := fun w => ..) (sp := fun _ => My.sp_law) rfl (by decide) rfl ⟨rfl, by decide, by decide⟩ (fun w h Y => PySem.W.kIn_of Y) ?F ?S ?C
  case F =>
    intro w mg fa h KX G hmg
    have T : ∃ t, My.Txt (L2.KOf KX) t := by
      dsimp only [L2.KOf]                          -- K must stand as «<heap const> w.params» for k_is
      refine' My.txt_mk ?e1 ?e2 ?e3 ..
      (case e1 => PySem.W.k_is)                    -- in the order: a name -> its address -> its object -> its parts
      (case e2 => PySem.W.k_is)
      ..
    obtain ⟨t, T⟩ := T
    have e0 := hmg.symm.trans (PySem.W.mg_of KX G T.law)
    cases e0                                       -- fa is the law's own address
    exact ⟨_, fun s u => .of_eq rfl, fun base kb nb => My.law_fn T kb nb⟩     -- if «.of_eq rfl» comes too early: refine' ⟨_, ?b, fun base kb nb => My.law_fn T kb nb⟩; exact fun s u => .of_eq rfl
  case S => exact fun w H a ns hl hO hS => ..
  case C => exact ..
(the tactic k_is has no namespace: write k_is) -/

/-! SHORT WORDS over the layer: a def of the text, its body, what a loop and a test want. -/
namespace L2
open PySem PySem.Spec PyProof.Rows

/-! ### the text by places -/
/-- the j-th statement of a class's body -/
def inClass (s : Stmt) (j : Nat) : Stmt := match s with
  | .ClassDef _ _ _ body _ _ _ _ _ _ _ => body.getD j (.Pass ⟨0, 0, 0, 0⟩)
  | _ => .Pass ⟨0, 0, 0, 0⟩
def defArgs (s : Stmt) : Arguments := match s with
  | .FunctionDef _ a _ _ _ _ _ _ _ _ => a
  | _ => { posonlyargs := [], args := [], vararg := none, kwonlyargs := [], kw_defaults := [], kwarg := none, defaults := [] }
def defBody (s : Stmt) : List Stmt := match s with
  | .FunctionDef _ _ b _ _ _ _ _ _ _ => b
  | _ => []
def defScope (s : Stmt) : Scope := match s with
  | .FunctionDef _ _ _ _ _ _ sc _ _ _ => sc
  | _ => { kind := .function, names := [], isGenerator := false, isCoroutine := false }

/-! ### no exception leaves a def -/
abbrev CX0 : CXT := fun _ _ _ _ _ _ => False
abbrev E0 : XK := fun _ _ _ => False
theorem pass0 {X : Cx} : Passes CX0 X E0 := fun _ _ _ _ _ _ _ h => h.elim

/-! ### a def (or method) of the text as it stands behind the top -/
structure Fun (K : PySem.W.Frag) (x qual : Str) (st : Stmt) (f : Addr) (fd : FuncData) : Prop where
  ex : ∃ (oc : Value) (od : Option Addr) (kV doc pm : Value) (an : Option Addr) (cdv ct : Value) (osl : Array (Option Value)),
    fd = PySem.W.fnOf x qual (defArgs st) (defBody st) (defScope st) .none kV doc pm an cdv ct ∧ K.lookup f = some ⟨oc, od, .func fd, osl⟩ ∧ PySem.W.codeIn K cdv qual = true
  kp : PySem.W.keepIn K (.ref f) = true
section
variable {P : Program} {w : World} {K : PySem.W.Frag} {mg : Str → Option Value} {base : Heap}
/-- THE RULE for a def: its body as a term of rules, and the reading of that term -/
theorem Fun.ok {x qual : Str} {st : Stmt} {f : Addr} {fd : FuncData} {N ps : List Str} {k : Nat} {sp : Sp} (F : Fun K x qual st f fd) (S : FnScope N ps (defScope st)) (len : ∀ vs H Q E, sp vs H Q E → vs.length = ps.length)
    (hbody : ∀ (cdv : Value) (A : Around) (outer : List Env) (s : Shared) (H : Hp) (vs : List V) (Q : VK) (E : XK), Room k (A.deeper (envOfC qual (defScope st) s.heap.objs.size f cdv)) → sp vs H Q E →
      ∃ t, PSs (cxOf CX0 P w K mg base N qual (defScope st) f cdv A outer s H E).nox (defBody st) t ∧ t { nx := fun _ H' => Q .non H', rt := Q } (start N vs) H) : FnOk P w K mg base CX0 (k + 1) f fd ps sp := by
  obtain ⟨oc, od, kV, doc, pm, an, cdv, ct, osl, rfl, lk, hcd⟩ := F.ex
  refine fn_of lk hcd S len fun A outer s H vs Q E hr hsp => ?_
  obtain ⟨t, h, q⟩ := hbody cdv A outer s H vs Q E hr hsp
  exact ⟨t, h.nox, q⟩
/-- how its arguments bind (no defaults): h is «fun _ _ _ _ _ _ us hl => match us, hl with | [_, _], _ => rfl», one _ a parameter -/
theorem Fun.binds {x qual : Str} {st : Stmt} {f : Addr} {fd : FuncData} {ps : List Str} (F : Fun K x qual st f fd)
    (h : ∀ (kV doc pm : Value) (an : Option Addr) (cdv ct : Value) (us : List Value), us.length = ps.length → bindArgs (PySem.W.fnOf x qual (defArgs st) (defBody st) (defScope st) .none kV doc pm an cdv ct) ⟨us, []⟩ = pure (ps.zip us)) : Binds K fd ps [] := by
  obtain ⟨oc, od, kV, doc, pm, an, cdv, ct, osl, rfl, lk, hcd⟩ := F.ex
  exact .all (h kV doc pm an cdv ct)
theorem fun_mk {x qual : Str} {st : Stmt} {f : Addr} {oc : Value} {od an : Option Addr} {osl : Array (Option Value)} {kV doc pm cdv ct : Value} (l : K.lookup f = some ⟨oc, od, .func (PySem.W.fnOf x qual (defArgs st) (defBody st) (defScope st) .none kV doc pm an cdv ct), osl⟩)
    (c : PySem.W.codeIn K cdv qual = true) (k : PySem.W.keepIn K (.ref f) = true) : Fun K x qual st f (PySem.W.fnOf x qual (defArgs st) (defBody st) (defScope st) .none kV doc pm an cdv ct) := ⟨⟨oc, od, kV, doc, pm, an, cdv, ct, osl, rfl, l, c⟩, k⟩
end
theorem hu_of {A : Around} {k : Nat} (hr : Room k A) : A.units + 1 < cLine := Nat.lt_of_le_of_lt (Nat.add_le_add_left (by decide : 1 ≤ 64) _) hr.units
theorem small1000 {n : Nat} (h : n ≤ 1000) : n < sizeLine := Nat.lt_of_le_of_lt h (by decide)

/-! ### expressions in short: the name that stands in the i-th slot -/
section
variable {X : Cx}
theorem pv (i : Nat) {x : Str} {pos : Pos} (hN : X.N[i]? = some x := by rfl) (hv : Vis X.env.scope x := by first | exact Or.inl rfl | exact Or.inr (Or.inl rfl) | exact Or.inr (Or.inr rfl)) (hd : (x == ("__debug__" : Str)) = false := by decide)
    (hcd : (x == ("__classdict__" : Str)) = false := by decide) : PE X (.Name x pos) (tVar i) := pe_var hN hv hd hcd
/-- len of a dict -/
theorem call_lenD : CallR X (.builtin "len") (fun xs H Q => ∃ a kvs, xs = [V.ref a] ∧ H a = some (.dK kvs) ∧ Q (.int kvs.length) H) := by
  intro pins s σ H xs us Q I r h
  obtain ⟨a, kvs, rfl, ha, q⟩ := h
  obtain ⟨u, rfl, ru⟩ := vals1 r
  cases ru
  exact d_len I (.inl ha) fun t s' I' => ⟨.int kvs.length, H, I', ⟨t, rfl⟩, q⟩
end

/-! ### tests -/
theorem iteF {A B : Prop} (h : B) : if false = true then A else B := by
  rw [if_neg Bool.false_ne_true]
  exact h
theorem iteT {A B : Prop} (h : A) : if true = true then A else B := by
  rw [if_pos rfl]
  exact h
theorem ite2 {c A B : Prop} [Decidable c] (h1 : c → A) (h2 : ¬ c → B) : if c then A else B := by
  by_cases h : c
  · rw [if_pos h]
    exact h1 h
  · rw [if_neg h]
    exact h2 h

/-! ### heaps -/
/-- all that was tracked is as it was -/
def Same (H H' : Hp) : Prop := ∀ b o, H b = some o → H' b = some o
theorem Same.refl (H : Hp) : Same H H := fun _ _ h => h
theorem Same.trans {H H1 H2 : Hp} (a : Same H H1) (b : Same H1 H2) : Same H H2 := fun c o h => b c o (a c o h)
theorem Same.free {H H' : Hp} (e : Same H H') {l : Addr} (h : H' l = Option.none) : H l = Option.none := by
  cases q : H l with
  | none => rfl
  | some o =>
    rw [e l o q] at h
    cases h
theorem Same.seq {K : PySem.W.Frag} {H H' : Hp} {a : Addr} {xs : List V} (e : Same H H') (h : SqL K H a xs) : SqL K H' a xs := by
  rcases h with (h | ⟨o, h⟩) | h
  · exact .inl (.inl (e _ _ h))
  · exact .inl (.inr ⟨o, e _ _ h⟩)
  · exact .inr h

/-! ### a dict's pairs: keys that differ -/
section
variable {κ : Type} [DecidableEq κ]
theorem valV_not {kvs : List (κ × V)} {k : κ} (h : valV kvs k = none) : ¬ k ∈ kvs.map (·.1) := by
  intro m
  obtain ⟨p, hp, e⟩ := List.mem_map.mp m
  have q : (kvs.any fun kv => decide (kv.1 = k)) = true := List.any_eq_true.mpr ⟨p, hp, decide_eq_true e⟩
  rw [valV_any, h] at q
  exact absurd q (by simp)
theorem nd_snoc : ∀ {l : List κ} {k : κ}, l.Nodup → ¬ k ∈ l → (l ++ [k]).Nodup
  | [], k, _, _ => by simp
  | a :: r, k, h, hk => by
    obtain ⟨h1, h2⟩ := List.nodup_cons.mp h
    show (a :: (r ++ [k])).Nodup
    refine List.nodup_cons.mpr ⟨fun m => ?_, nd_snoc h2 fun m => hk (List.mem_cons.mpr (Or.inr m))⟩
    rcases List.mem_append.mp m with q | q
    · exact h1 q
    · exact hk (List.mem_cons.mpr (Or.inl (List.mem_singleton.mp q).symm))
theorem nd_putK {kvs : List (κ × V)} {k : κ} (v : V) (hn : (kvs.map (·.1)).Nodup) (h : valV kvs k = none) : ((putK kvs k v).map (·.1)).Nodup := by
  rw [putK_new v h, List.map_append]
  exact nd_snoc hn (valV_not h)
theorem dropK_pos {p : κ × V} {r : List (κ × V)} {k : κ} (e : p.1 = k) : dropK (p :: r) k = dropK r k := by
  unfold dropK
  rw [List.filter_cons, if_neg (by simp [e])]
theorem dropK_neg {p : κ × V} {r : List (κ × V)} {k : κ} (e : ¬ p.1 = k) : dropK (p :: r) k = p :: dropK r k := by
  unfold dropK
  rw [List.filter_cons, if_pos (by simp [e])]
end
/-! ### lists -/
theorem at_of {xs : List V} {z : Int} {j : Nat} {v : V} (e : z = (j : Int)) (h : xs[j]? = some v) : atI xs z = some v := by
  rw [e]
  exact atI_nat h
end L2

section
set_option Elab.async false
set_option linter.all false
set_option maxRecDepth 100000
set_option maxHeartbeats 2000000
namespace L2
open PySem PySem.Spec PyProof.Rows
open PySem.W (WData Codec OpenSpec Well WellAll ReadsW ReadsAllW)
/-! ### an answer as data -/
mutual
/-- x stands for the datum d, lists and tuples all the way -/
inductive Dw (K : PySem.W.Frag) (H : Hp) : V → WData → Prop
  | non : Dw K H .non .none
  | bl (b : Bool) : Dw K H (.bl b) (.bool b)
  | int (i : Int) : Dw K H (.int i) (.int i)
  | str (x : Str) : Dw K H (.str x) (.str x)
  | byt (b : Array UInt8) : Dw K H (.byt b) (.bytes b.toList)
  | lst {a : Addr} {xs : List V} {ds : List WData} : SqL K H a xs → DwAll K H xs ds → Dw K H (.ref a) (.list ds)
  | tup {a : Addr} {xs : List V} {ds : List WData} : SqT K H a xs → DwAll K H xs ds → Dw K H (.ref a) (.tuple ds)
inductive DwAll (K : PySem.W.Frag) (H : Hp) : List V → List WData → Prop
  | nil : DwAll K H [] []
  | cons {v : V} {vs : List V} {d : WData} {ds : List WData} : Dw K H v d → DwAll K H vs ds → DwAll K H (v :: vs) (d :: ds)
end
theorem dw_ints {K : PySem.W.Frag} {H : Hp} : ∀ ns : List Int, DwAll K H (ns.map V.int) (ns.map WData.int)
  | [] => .nil
  | n :: r => .cons (.int n) (dw_ints r)
theorem ints_dw {K : PySem.W.Frag} {H : Hp} : ∀ (ns : List Int) (xs : List V), DwAll K H xs (ns.map WData.int) → xs = ns.map V.int
  | [], xs, h => by
    cases h
    rfl
  | n :: r, xs, h => by
    cases h with
    | cons h1 h2 =>
      cases h1
      rw [ints_dw r _ h2] <;> rfl
section
variable {P : Program} {w : World} {K : PySem.W.Frag} {H : Hp} {h : Heap} {R : PySem.W.WRecords} {cl : Str → Option Addr}
theorem sqL_at {a : Addr} {xs : List V} (hok : HOk P w H h) (KX : K.In h) (q : SqL K H a xs) : ∃ (its : List Value) (o : Obj) (n : Nat), Vals xs its ∧ h.get? a = some o ∧ o.cls = .type "list" ∧ o.data = .seq its.toArray n := by
  rcases q with q | ⟨o, its, n, e, hc, _, hd, _, hv⟩
  · obtain ⟨_, its, n, hv, e⟩ := (show ObjOk P w H h a (.lst xs) from q.ok hok)
    exact ⟨its, _, n, hv, e, rfl, rfl⟩
  · exact ⟨its.toList, o, n, hv, KX _ _ e, hc, by simp [hd]⟩
theorem sqT_at {a : Addr} {xs : List V} (hok : HOk P w H h) (KX : K.In h) (q : SqT K H a xs) : ∃ (its : List Value) (o : Obj) (n : Nat), Vals xs its ∧ h.get? a = some o ∧ o.cls = .type "tuple" ∧ o.data = .seq its.toArray n := by
  rcases q with q | ⟨o, its, n, e, hc, hd, _, hv⟩
  · obtain ⟨_, its, hv, o, e, hc, n, hd⟩ := (show ObjOk P w H h a (.tup xs) from q.ok hok)
    exact ⟨its, o, n, hv, e, hc, hd⟩
  · exact ⟨its.toList, o, n, hv, KX _ _ e, hc, by simp [hd]⟩
mutual
theorem Dw.reads (hok : HOk P w H h) (KX : K.In h) : ∀ (d : WData) (v : V) (u : Value), Dw K H v d → RelV v u → ∃ as, ReadsW R cl h u d as
  | .none, _, _, x, r => by
    cases x
    cases r
    exact ⟨_, ReadsW.none⟩
  | .bool b, _, _, x, r => by
    cases x
    cases r
    exact ⟨_, ReadsW.bool b⟩
  | .int i, _, _, x, r => by
    cases x
    obtain ⟨t, rfl⟩ := r
    exact ⟨_, ReadsW.int i t⟩
  | .str s, _, _, x, r => by
    cases x
    obtain ⟨t, rfl⟩ := r
    exact ⟨_, ReadsW.str s t⟩
  | .bytes b, _, _, x, r => by
    cases x
    obtain ⟨t, rfl⟩ := r
    exact ⟨_, ReadsW.bytes _ t⟩
  | .list ds, _, _, x, r => by
    cases x with
    | lst hs ha =>
      cases r
      obtain ⟨its, o, n, rv, ho, hc, hd⟩ := sqL_at hok KX hs
      obtain ⟨as, hr⟩ := Dw.readsAll hok KX ds _ its ha rv
      exact ⟨_, ReadsW.list ho hc hd hr⟩
  | .tuple ds, _, _, x, r => by
    cases x with
    | tup hs ha =>
      cases r
      obtain ⟨its, o, n, rv, ho, hc, hd⟩ := sqT_at hok KX hs
      obtain ⟨as, hr⟩ := Dw.readsAll hok KX ds _ its ha rv
      exact ⟨_, ReadsW.tuple ho hc hd hr⟩
  | .float _, _, _, x, _ => by cases x
  | .dict _, _, _, x, _ => by cases x
  | .bytearray _, _, _, x, _ => by cases x
  | .set _, _, _, x, _ => by cases x
  | .frozenset _, _, _, x, _ => by cases x
  | .obj _ _, _, _, x, _ => by cases x
theorem Dw.readsAll (hok : HOk P w H h) (KX : K.In h) : ∀ (ds : List WData) (vs : List V) (us : List Value), DwAll K H vs ds → Vals vs us → ∃ as, ReadsAllW R cl h us ds as
  | [], _, _, x, r => by
    cases x
    cases r
    exact ⟨_, ReadsAllW.nil⟩
  | d :: ds, _, _, x, r => by
    cases x with
    | cons h1 h2 =>
      cases r with
      | cons r1 r2 =>
        obtain ⟨as, q1⟩ := Dw.reads hok KX d _ _ h1 r1
        obtain ⟨bs, q2⟩ := Dw.readsAll hok KX ds _ _ h2 r2
        exact ⟨_, ReadsAllW.cons q1 q2⟩
end
end
/-! ### the arguments -/
mutual
/-- data that a codec tells -/
def plW : WData → Bool
  | .none => true
  | .bool _ => true
  | .int _ => true
  | .str _ => true
  | .bytes _ => true
  | .list xs => plWs xs
  | .tuple xs => plWs xs
  | _ => false
def plWs : List WData → Bool
  | [] => true
  | x :: r => plW x && plWs r
end
theorem plWs_map {α : Type} {f : α → WData} (h : ∀ a, plW (f a) = true) : ∀ l : List α, plWs (l.map f) = true
  | [] => rfl
  | x :: r => by
    show (plW (f x) && plWs (r.map f)) = true
    rw [h x, plWs_map h r] <;> rfl
theorem pl_enc : ∀ (c : Codec) (a : c.denote), plW (c.enc a) = true
  | .unit, _ => rfl
  | .bool, _ => rfl
  | .int _ _, _ => rfl
  | .nat _ _, _ => rfl
  | .u8, _ => rfl
  | .bytes _ _, _ => rfl
  | .text _ _ _ _, _ => rfl
  | .list _ _ c, a => plWs_map (fun x => pl_enc c x) a
  | .pair c d, a => by
    show (plW (c.enc a.1) && (plW (d.enc a.2) && true)) = true
    rw [pl_enc c a.1, pl_enc d a.2] <;> rfl
  | .triple c d e, a => by
    show (plW (c.enc a.1) && (plW (d.enc a.2.1) && (plW (e.enc a.2.2) && true))) = true
    rw [pl_enc c a.1, pl_enc d a.2.1, pl_enc e a.2.2] <;> rfl
  | .option c, none => rfl
  | .option c, some x => pl_enc c x
theorem pl_encAll : ∀ (cs : List Codec) (a : Codec.denoteAll cs), plWs (Codec.encAll cs a) = true
  | [], _ => rfl
  | c :: cs, a => by
    show (plW (c.enc a.1) && plWs (Codec.encAll cs a.2)) = true
    rw [pl_enc c a.1, pl_encAll cs a.2] <;> rfl
theorem weight_mem : ∀ {xs : List WData} {d : WData}, d ∈ xs → d.weight ≤ WData.weightAll xs
  | [], d, h => absurd h (by simp)
  | x :: r, d, h => by
    show d.weight ≤ x.weight + 1 + WData.weightAll r
    rcases List.mem_cons.mp h with e | m
    · rw [e]
      omega
    · have z := weight_mem m
      omega
def toV : Value → V
  | .none => .non
  | .bool b => .bl b
  | .int i _ => .int i
  | .str x _ => .str x
  | .bytes b _ => .byt b
  | .ref a => .ref a
  | _ => .non
/-- a value of the arguments, its objects among A -/
def OkU (A : List Addr) : Value → Prop
  | .none => True
  | .bool _ => True
  | .int _ _ => True
  | .str _ _ => True
  | .bytes _ _ => True
  | .ref a => a ∈ A
  | _ => False
theorem OkU.mono {A B : List Addr} (h : ∀ a ∈ A, a ∈ B) : ∀ {u : Value}, OkU A u → OkU B u := fun {u} x => by
  cases u with
  | ref a => exact h a x
  | none => trivial
  | bool b => trivial
  | int i t => trivial
  | str s t => trivial
  | bytes b t => trivial
  | _ => exact False.elim x
theorem relV_toV {A : List Addr} {u : Value} (x : OkU A u) : RelV (toV u) u := by
  cases u with
  | ref a => rfl
  | none => rfl
  | bool b => rfl
  | int i t => exact ⟨t, rfl⟩
  | str s t => exact ⟨t, rfl⟩
  | bytes b t => exact ⟨t, rfl⟩
  | _ => exact False.elim x
theorem vals_toV {A : List Addr} : ∀ {vs : List Value}, (∀ u ∈ vs, OkU A u) → Vals (vs.map toV) vs
  | [], _ => .nil
  | u :: r, h => .cons (relV_toV (h u (List.mem_cons_self ..))) (vals_toV fun x hx => h x (List.mem_cons_of_mem _ hx))
/-- an object of the arguments -/
def ArgOb (h : Heap) (A : List Addr) (a : Addr) : Prop := ∃ vs : List Value, vs.length ≤ sizeLine ∧ (∀ u ∈ vs, OkU A u) ∧
  (h.get? a = some { cls := .type "list", data := .seq vs.toArray } ∨ h.get? a = some { cls := .type "tuple", data := .seq vs.toArray })
theorem ArgOb.mono {h : Heap} {A B : List Addr} {a : Addr} (k : ∀ a ∈ A, a ∈ B) (x : ArgOb h A a) : ArgOb h B a := by
  obtain ⟨vs, h1, h2, h3⟩ := x
  exact ⟨vs, h1, fun u hu => (h2 u hu).mono k, h3⟩
theorem wellAll_len {P : Params} {h : Heap} : ∀ {vs : List Value} {ds : List WData}, WellAll P h vs ds → vs.length = ds.length
  | _, _, .nil => rfl
  | _, _, .cons _ b => by
    show _ + 1 = _ + 1
    rw [wellAll_len b]
theorem well_list {P : Params} {h : Heap} {v : Value} {ds : List WData} (x : Well P h v (.list ds)) : ∃ (a : Addr) (vs : List Value), v = .ref a ∧ h.get? a = some { cls := .type "list", data := .seq vs.toArray } ∧ WellAll P h vs ds := by
  cases x with
  | list ho hall => exact ⟨_, _, rfl, ho, hall⟩
theorem well_tuple {P : Params} {h : Heap} {v : Value} {ds : List WData} (x : Well P h v (.tuple ds)) : ∃ (a : Addr) (vs : List Value), v = .ref a ∧ h.get? a = some { cls := .type "tuple", data := .seq vs.toArray } ∧ WellAll P h vs ds := by
  cases x with
  | tuple ho hall => exact ⟨_, _, rfl, ho, hall⟩
theorem well_cons {P : Params} {h : Heap} {us : List Value} {d : WData} {ds : List WData} (x : WellAll P h us (d :: ds)) : ∃ (v : Value) (vs : List Value), us = v :: vs ∧ Well P h v d ∧ WellAll P h vs ds := by
  cases x with
  | cons a b => exact ⟨_, _, rfl, a, b⟩
theorem line_of {n : Nat} (h : n ≤ 1048576) : n ≤ sizeLine := Nat.le_trans h (by decide)
section
variable {P : Params} {h : Heap}
mutual
theorem area_one : ∀ (d : WData) (v : Value), Well P h v d → plW d = true → d.weight ≤ 1048576 → ∃ A : List Addr, OkU A v ∧ ∀ a ∈ A, ArgOb h A a
  | .none, _, x, _, _ => by
    cases x
    exact ⟨[], trivial, fun a m => absurd m (by simp)⟩
  | .bool b, _, x, _, _ => by
    cases x
    exact ⟨[], trivial, fun a m => absurd m (by simp)⟩
  | .int i, _, x, _, _ => by
    cases x
    exact ⟨[], trivial, fun a m => absurd m (by simp)⟩
  | .str s, _, x, _, _ => by
    cases x
    exact ⟨[], trivial, fun a m => absurd m (by simp)⟩
  | .bytes b, _, x, _, _ => by
    cases x
    exact ⟨[], trivial, fun a m => absurd m (by simp)⟩
  | .list ds, _, x, p, z => by
    obtain ⟨a, vs, rfl, ho, hall⟩ := well_list x
    have z2 : WData.weightAll ds ≤ 1048576 := z
    obtain ⟨A, h1, h2⟩ := area_all ds _ hall p fun d hd => Nat.le_trans (weight_mem hd) z2
    have k : ∀ b ∈ A, b ∈ a :: A := fun b hb => List.mem_cons_of_mem _ hb
    refine ⟨a :: A, List.mem_cons_self .., fun b hb => ?_⟩
    rcases List.mem_cons.mp hb with e | m
    · rw [e]
      exact ⟨vs, line_of (by rw [wellAll_len hall]; exact Nat.le_trans (PySem.W.length_le_weightAllW ds) z2), fun u hu => (h1 u hu).mono k, .inl ho⟩
    · exact (h2 b m).mono k
  | .tuple ds, _, x, p, z => by
    obtain ⟨a, vs, rfl, ho, hall⟩ := well_tuple x
    have z2 : WData.weightAll ds ≤ 1048576 := z
    obtain ⟨A, h1, h2⟩ := area_all ds _ hall p fun d hd => Nat.le_trans (weight_mem hd) z2
    have k : ∀ b ∈ A, b ∈ a :: A := fun b hb => List.mem_cons_of_mem _ hb
    refine ⟨a :: A, List.mem_cons_self .., fun b hb => ?_⟩
    rcases List.mem_cons.mp hb with e | m
    · rw [e]
      exact ⟨vs, line_of (by rw [wellAll_len hall]; exact Nat.le_trans (PySem.W.length_le_weightAllW ds) z2), fun u hu => (h1 u hu).mono k, .inr ho⟩
    · exact (h2 b m).mono k
  | .float _, _, _, p, _ => Bool.noConfusion (show false = true from p)
  | .dict _, _, _, p, _ => Bool.noConfusion (show false = true from p)
  | .bytearray _, _, _, p, _ => Bool.noConfusion (show false = true from p)
  | .set _, _, _, p, _ => Bool.noConfusion (show false = true from p)
  | .frozenset _, _, _, p, _ => Bool.noConfusion (show false = true from p)
  | .obj _ _, _, _, p, _ => Bool.noConfusion (show false = true from p)
theorem area_all : ∀ (ds : List WData) (vs : List Value), WellAll P h vs ds → plWs ds = true → (∀ d ∈ ds, d.weight ≤ 1048576) → ∃ A : List Addr, (∀ u ∈ vs, OkU A u) ∧ ∀ a ∈ A, ArgOb h A a
  | [], _, x, _, _ => by
    cases x
    exact ⟨[], fun u m => absurd m (by simp), fun a m => absurd m (by simp)⟩
  | d :: ds, _, x, p, z => by
    obtain ⟨v, vs, rfl, x1, x2⟩ := well_cons x
    have q : plW d = true ∧ plWs ds = true := Bool.and_eq_true_iff.mp p
    obtain ⟨A, a1, a2⟩ := area_one d v x1 q.1 (z d (List.mem_cons_self ..))
    obtain ⟨B, b1, b2⟩ := area_all ds vs x2 q.2 fun e he => z e (List.mem_cons_of_mem _ he)
    have kA : ∀ b ∈ A, b ∈ A ++ B := fun b hb => List.mem_append.mpr (.inl hb)
    have kB : ∀ b ∈ B, b ∈ A ++ B := fun b hb => List.mem_append.mpr (.inr hb)
    refine ⟨A ++ B, fun u hu => ?_, fun b hb => ?_⟩
    · rcases List.mem_cons.mp hu with e | m
      · rw [e]
        exact a1.mono kA
      · exact (b1 u m).mono kB
    · rcases List.mem_append.mp hb with m | m
      · exact (a2 b m).mono kA
      · exact (b2 b m).mono kB
end
end
/-- what is tracked of an argument's object -/
def hoOf (o : Obj) : Option HO := match o.data with
  | .seq vs _ => if (o.cls == Value.type "list") = true then some (.frz o (.lst (vs.toList.map toV))) else some (.frz o (.tup (vs.toList.map toV)))
  | _ => none
def argH (K : PySem.W.Frag) (h : Heap) (A : List Addr) : Hp := fun b => if b ∈ A then (if (K.lookup b).isNone = true then (h.get? b).bind hoOf else none) else none
/-- nothing is tracked but what is known to the object -/
def OnlyF (H : Hp) : Prop := ∀ b, H b = none ∨ ∃ o u, H b = some (.frz o u)
theorem hoOf_lst (vs : List Value) : hoOf { cls := .type "list", data := .seq vs.toArray } = some (.frz { cls := .type "list", data := .seq vs.toArray } (.lst (vs.map toV))) := by
  show (if (Value.type "list" == Value.type "list") = true then some (HO.frz { cls := .type "list", data := .seq vs.toArray } (.lst (vs.toArray.toList.map toV))) else some (HO.frz { cls := .type "list", data := .seq vs.toArray } (.tup (vs.toArray.toList.map toV)))) = _
  rw [if_pos (beq_self_eq_true _)]
theorem hoOf_tup (vs : List Value) : hoOf { cls := .type "tuple", data := .seq vs.toArray } = some (.frz { cls := .type "tuple", data := .seq vs.toArray } (.tup (vs.map toV))) := by
  show (if (Value.type "tuple" == Value.type "list") = true then some (HO.frz { cls := .type "tuple", data := .seq vs.toArray } (.lst (vs.toArray.toList.map toV))) else some (HO.frz { cls := .type "tuple", data := .seq vs.toArray } (.tup (vs.toArray.toList.map toV)))) = _
  rw [if_neg (by decide)]
section
variable {P : Program} {w : World} {K : PySem.W.Frag} {h : Heap} {A : List Addr}
theorem argH_at {b : Addr} {o : Obj} (hb : b ∈ A) (hk : K.lookup b = none) (e : h.get? b = some o) : argH K h A b = hoOf o := by
  unfold argH
  rw [if_pos hb, hk, if_pos (show (none : Option Obj).isNone = true from rfl), e] <;> rfl
theorem of_argH {b : Addr} {u : HO} (q : argH K h A b = some u) : b ∈ A ∧ K.lookup b = none := by
  unfold argH at q
  by_cases hb : b ∈ A
  · rw [if_pos hb] at q
    cases hk : K.lookup b with
    | none => exact ⟨hb, rfl⟩
    | some o =>
      rw [hk, if_neg (by simp)] at q
      cases q
  · rw [if_neg hb] at q
    cases q
/-- what stands tracked -/
theorem argH_is (ar : ∀ a ∈ A, ArgOb h A a) {b : Addr} {u : HO} (q : argH K h A b = some u) : K.lookup b = none ∧ ∃ vs : List Value, vs.length ≤ sizeLine ∧ (∀ u ∈ vs, OkU A u) ∧
    ((h.get? b = some { cls := .type "list", data := .seq vs.toArray } ∧ u = .frz { cls := .type "list", data := .seq vs.toArray } (.lst (vs.map toV))) ∨
     (h.get? b = some { cls := .type "tuple", data := .seq vs.toArray } ∧ u = .frz { cls := .type "tuple", data := .seq vs.toArray } (.tup (vs.map toV)))) := by
  obtain ⟨hb, hk⟩ := of_argH q
  obtain ⟨vs, h1, h2, h3⟩ := ar b hb
  refine ⟨hk, vs, h1, h2, ?_⟩
  rcases h3 with e | e
  · rw [argH_at hb hk e, hoOf_lst] at q
    exact .inl ⟨e, (Option.some.inj q).symm⟩
  · rw [argH_at hb hk e, hoOf_tup] at q
    exact .inr ⟨e, (Option.some.inj q).symm⟩
theorem argH_only (ar : ∀ a ∈ A, ArgOb h A a) : OnlyF (argH K h A) := fun b => by
  cases q : argH K h A b with
  | none => exact .inl rfl
  | some u =>
    obtain ⟨_, vs, _, _, ⟨_, e⟩ | ⟨_, e⟩⟩ := argH_is ar q
    · exact .inr ⟨_, _, by rw [e]⟩
    · exact .inr ⟨_, _, by rw [e]⟩
theorem argH_ok (ar : ∀ a ∈ A, ArgOb h A a) : HOk P w (argH K h A) h := fun b u q => by
  obtain ⟨_, vs, h1, h2, ⟨e, rfl⟩ | ⟨e, rfl⟩⟩ := argH_is ar q
  · exact ⟨e, by rw [List.length_map]; exact h1, vs, _, vals_toV h2, e⟩
  · exact ⟨e, by rw [List.length_map]; exact h1, vs, vals_toV h2, _, e, rfl, _, rfl⟩
theorem seq_inj {c c' : Value} {vs us : List Value} (e : (some { cls := c, data := .seq vs.toArray } : Option Obj) = some { cls := c', data := .seq us.toArray }) : c = c' ∧ vs = us := by
  have e1 := Option.some.inj e
  have e2 : c = c' := congrArg Obj.cls e1
  have e3 : Data.seq vs.toArray = Data.seq us.toArray := congrArg Obj.data e1
  injection e3 with e4
  refine ⟨e2, ?_⟩
  have e5 := congrArg Array.toList e4
  simpa using e5
/-- a list argument -/
theorem argL (KX : K.In h) (ar : ∀ a ∈ A, ArgOb h A a) {a : Addr} {vs : List Value} (ha : a ∈ A) (e : h.get? a = some { cls := .type "list", data := .seq vs.toArray }) : (∀ u ∈ vs, OkU A u) ∧ SqL K (argH K h A) a (vs.map toV) := by
  obtain ⟨us, h1, h2, h3⟩ := ar a ha
  have hu : us = vs := by
    rcases h3 with q | q
    · rw [e] at q
      exact (seq_inj q).2.symm
    · rw [e] at q
      exact absurd (Value.type.inj (seq_inj q).1) (by decide)
  subst hu
  refine ⟨h2, ?_⟩
  cases hk : K.lookup a with
  | none => exact .inl (.inr ⟨_, by rw [argH_at ha hk e, hoOf_lst]⟩)
  | some o =>
    have e2 := KX a o hk
    rw [e] at e2
    obtain rfl := Option.some.inj e2
    exact .inr ⟨_, us.toArray, _, hk, rfl, rfl, rfl, by rw [List.size_toArray]; exact h1, by simpa using vals_toV h2⟩
theorem argT (KX : K.In h) (ar : ∀ a ∈ A, ArgOb h A a) {a : Addr} {vs : List Value} (ha : a ∈ A) (e : h.get? a = some { cls := .type "tuple", data := .seq vs.toArray }) : (∀ u ∈ vs, OkU A u) ∧ SqT K (argH K h A) a (vs.map toV) := by
  obtain ⟨us, h1, h2, h3⟩ := ar a ha
  have hu : us = vs := by
    rcases h3 with q | q
    · rw [e] at q
      exact absurd (Value.type.inj (seq_inj q).1) (by decide)
    · rw [e] at q
      exact (seq_inj q).2.symm
  subst hu
  refine ⟨h2, ?_⟩
  cases hk : K.lookup a with
  | none => exact .inl (.inr ⟨_, by rw [argH_at ha hk e, hoOf_tup]⟩)
  | some o =>
    have e2 := KX a o hk
    rw [e] at e2
    obtain rfl := Option.some.inj e2
    exact .inr ⟨_, us.toArray, _, hk, rfl, rfl, by rw [List.size_toArray]; exact h1, by simpa using vals_toV h2⟩
mutual
theorem dw_one {Pm : Params} (KX : K.In h) (ar : ∀ a ∈ A, ArgOb h A a) : ∀ (d : WData) (v : Value), Well Pm h v d → plW d = true → OkU A v → Dw K (argH K h A) (toV v) d
  | .none, _, x, _, _ => by
    cases x
    exact .non
  | .bool b, _, x, _, _ => by
    cases x
    exact .bl b
  | .int i, _, x, _, _ => by
    cases x
    exact .int i
  | .str s, _, x, _, _ => by
    cases x
    exact .str s
  | .bytes b, _, x, _, _ => by
    cases x
    have z := Dw.byt (K := K) (H := argH K h A) b.toArray
    exact z
  | .list ds, _, x, p, hu => by
    obtain ⟨a, vs, rfl, ho, hall⟩ := well_list x
    obtain ⟨h2, hs⟩ := argL KX ar hu ho
    exact .lst hs (dw_all KX ar ds _ hall p h2)
  | .tuple ds, _, x, p, hu => by
    obtain ⟨a, vs, rfl, ho, hall⟩ := well_tuple x
    obtain ⟨h2, hs⟩ := argT KX ar hu ho
    exact .tup hs (dw_all KX ar ds _ hall p h2)
  | .float _, _, _, p, _ => Bool.noConfusion (show false = true from p)
  | .dict _, _, _, p, _ => Bool.noConfusion (show false = true from p)
  | .bytearray _, _, _, p, _ => Bool.noConfusion (show false = true from p)
  | .set _, _, _, p, _ => Bool.noConfusion (show false = true from p)
  | .frozenset _, _, _, p, _ => Bool.noConfusion (show false = true from p)
  | .obj _ _, _, _, p, _ => Bool.noConfusion (show false = true from p)
theorem dw_all {Pm : Params} (KX : K.In h) (ar : ∀ a ∈ A, ArgOb h A a) : ∀ (ds : List WData) (vs : List Value), WellAll Pm h vs ds → plWs ds = true → (∀ u ∈ vs, OkU A u) → DwAll K (argH K h A) (vs.map toV) ds
  | [], _, x, _, _ => by
    cases x
    exact .nil
  | d :: ds, _, x, p, hu => by
    obtain ⟨v, vs, rfl, x1, x2⟩ := well_cons x
    have q : plW d = true ∧ plWs ds = true := Bool.and_eq_true_iff.mp p
    exact .cons (dw_one KX ar d v x1 q.1 (hu _ (List.mem_cons_self ..))) (dw_all KX ar ds vs x2 q.2 fun u m => hu u (List.mem_cons_of_mem _ m))
end
end
/-! ### the call -/
theorem spec_call {P : Program} {w : World} {K : PySem.W.Frag} {mg mb : Str → Option Value} {CX : CXT} {k : Nat} {fa : Addr} {fd : FuncData} {ps : List Str} {sp : Sp} {s₁ : Shared} {vals : List Value} {ds : List WData} {R : PySem.W.WRecords} {cl : Str → Option Addr} {d0 : WData}
    (KX : K.In s₁.heap) (hns : s₁.heap.Ns mainGlobals mg) (hb : s₁.heap.Ns builtinsNs mb) (hbb : ∀ x : Str, x ≠ "__name__" → mb x = bootBuiltins x) (hlim : s₁.heap.NoLimit) (hg : s₁.gens = #[])
    (hwl : WellAll w.params s₁.heap vals ds) (hpl : plWs ds = true) (hwt : ∀ d ∈ ds, d.weight ≤ 1048576) (hr : Room k callerA)
    (F : ∀ base : Heap, K.In base → base.Ns mainGlobals mg → FnOk P w K mg base CX k fa fd ps sp) (hbind : ∀ (s : Shared) (us : List Value), us.length = ps.length → BindsTo s fd ⟨us, []⟩ (ps.zip us)) (hlen : ds.length = ps.length)
    (hsp : ∀ (H : Hp) (xs : List V), OnlyF H → DwAll K H xs ds → sp xs H (fun v H' => Dw K H' v d0) fun _ _ _ => False)
    (hCX : ∀ H e s', CX [] H s₁ (fun _ _ _ => False) e s' → False) :
    codeAny (model P w) callerA (.call (.ref fa) ⟨vals, []⟩) (fun r s' => ∃ u as, r = .ok (.ret u) ∧ ReadsW R cl s'.heap u d0 as ∧ OldK s₁.heap s'.heap ∧ s'.os = s₁.os ∧ AllBare s'.gens) s₁ := by
  obtain ⟨A, ho, ar⟩ := area_all ds vals hwl hpl hwt
  have hO : OnlyF (argH K s₁.heap A) := argH_only ar
  have hok : HOk P w (argH K s₁.heap A) s₁.heap := argH_ok ar
  have hS := dw_all KX ar ds vals hwl hpl ho
  have hV := vals_toV ho
  have hK : ∀ b u, argH K s₁.heap A b = some u → K.lookup b = none := fun b u q => (argH_is ar q).1
  have noA : ∀ {b : Addr} {o : Obj} {es : Array DictEntry} {ep : Nat}, s₁.heap.get? b = some o → o.data = .dict es ep → argH K s₁.heap A b = none := fun {b o es ep} e d => by
    cases q : argH K s₁.heap A b with
    | none => rfl
    | some u =>
      obtain ⟨_, vs, _, _, ⟨e2, _⟩ | ⟨e2, _⟩⟩ := argH_is ar q
      · rw [e2] at e
        cases e
        have d' : Data.seq vs.toArray _ = Data.dict es ep := d
        cases d'
      · rw [e2] at e
        cases e
        have d' : Data.seq vs.toArray _ = Data.dict es ep := d
        cases d'
  generalize argH K s₁.heap A = H at hO hok hS hK noA
  have base_of : ∀ {b : Addr} {o : Obj}, s₁.heap.get? b = some o → H b = none → (hidT s₁.heap H).get? b = some o := fun e n => hidT_get e n
  have nsK : ∀ {b : Addr} {m : Str → Option Value}, s₁.heap.Ns b m → (hidT s₁.heap H).Ns b m := fun {b m} ⟨o, es, ep, e, d, r⟩ => ⟨o, es, ep, base_of e (noA e d), d, r⟩
  have nK : ∀ b o, K.lookup b = some o → H b = none := fun b o e => by
    cases q : H b with
    | none => rfl
    | some u =>
      rw [hK b u q] at e
      cases e
  have hKb : K.In (hidT s₁.heap H) := fun b o e => base_of (KX b o e) (nK b o e)
  have hM : Mod K mg (hidT s₁.heap H) := ⟨hKb, nsK hns, ⟨mb, nsK hb, hbb⟩, let ⟨mc, h1, h2⟩ := hlim; ⟨mc, nsK h1, h2⟩⟩
  have e0 : Env0 P w K mg (hidT s₁.heap H) callerA [] s₁ H := ⟨rfl, hM, fun b o e => of_hidT e, Nat.le_of_eq (hidT_size _ _), trivial, fun b hb => absurd (show b ∈ ([] : List Addr) from hb) (by simp), hok, .of_eq hg⟩
  have hl : vals.length = ps.length := by rw [wellAll_len hwl]; exact hlen
  refine codeAny_mono ((F _ hKb (nsK hns)).run callerA [] s₁ H ⟨vals, []⟩ vals (vals.map toV) _ _ hr e0 (hbind s₁ vals hl) hV (hsp H _ hO hS)) fun r s' x => ?_
  cases r with
  | error e => exact (hCX H e s' x).elim
  | ok fl =>
    cases fl with
    | next => exact False.elim x
    | brk => exact False.elim x
    | cont => exact False.elim x
    | ret u =>
      obtain ⟨v, H', os, bare, un, hok', r', q⟩ := x
      have kept : ∀ b o, s₁.heap.get? b = some o → s'.heap.get? b = some o := fun b o e => by
        cases q2 : H b with
        | none => exact un.keep b o e q2 (by intro z; exact absurd (show b ∈ ([] : List Addr) from z) (by simp)) (by simp)
        | some u2 =>
          rcases hO b with z | ⟨ob, u3, z⟩
          · rw [q2] at z
            cases z
          · have z2 := un.frzs b ob _ z
            obtain ⟨e1, _⟩ := hok b _ z
            obtain ⟨e2, _⟩ := hok' b _ z2
            rw [e] at e1
            cases e1
            exact e2
      have KX' : K.In s'.heap := fun b o e => kept b o (KX b o e)
      obtain ⟨as, hrd⟩ := Dw.reads (R := R) (cl := cl) hok' KX' d0 v u q r'
      exact ⟨u, as, rfl, hrd, OldK.of_keep kept, os, bare⟩
/-! ### the row -/
theorem layable_weight {ds : List WData} (h : WData.layableAll ds = true) : ∀ d ∈ ds, d.weight ≤ 1048576 := fun d hd =>
  (PySem.W.layableW_iff.mp (List.all_eq_true.mp h d hd)).2.2
theorem encAll_len : ∀ (cs : List Codec) (a : Codec.denoteAll cs), (Codec.encAll cs a).length = cs.length
  | [], _ => rfl
  | c :: cs, a => by
    show (Codec.encAll cs a.2).length + 1 = cs.length + 1
    rw [encAll_len cs a.2]
/-- the goal that k_headS leaves (case hc), from the promise of the row's def: whatever the arguments that the codecs let and the row asks for, the def gives what stands for enc (f ..) -/
theorem walk_spec {r : OpenSpec} {k : Nat} {q : Program} {loose : List Str} {XP : (Str → Option Value) → Heap → Prop} {YP : World → Heap → Prop} {d : DefRec} {K : Params → PySem.W.Frag} {CX : World → CXT} {ps : List Str} {sp : World → Sp}
    (hwell : r.wellSaid = true) (hdf : d.params.defaults = []) (hlen : r.args.length = ps.length) (hr : Room k callerA)
    (hY : ∀ (w : World) (h : Heap), YP w h → (K w.params).In h)
    (F : ∀ (w : World) (mg : Str → Option Value) (fa : Addr) (h : Heap), YP w h → (K w.params).In h → h.Ns mainGlobals mg → mg d.name = some (.ref fa) →
      ∃ fd : FuncData, (∀ (s : Shared) (us : List Value), us.length = ps.length → BindsTo s fd ⟨us, []⟩ (ps.zip us)) ∧
        ∀ base : Heap, (K w.params).In base → base.Ns mainGlobals mg → FnOk r.prog w (K w.params) mg base (CX w) k fa fd ps (sp w))
    (hsp : ∀ (w : World) (H : Hp) (xs : List V) (a : Codec.denoteAll r.args), OnlyF H → Codec.withinAll r.args a = true → Codec.app r.args r.asked a = true → DwAll (K w.params) H xs (Codec.encAll r.args a) →
      sp w xs H (fun v H' => Dw (K w.params) H' v (r.ret.enc (Codec.app r.args r.f a))) fun _ _ _ => False)
    (hCX : ∀ (w : World) (H : Hp) (s : Shared) (e : Value) (s' : Shared), CX w [] H s (fun _ _ _ => False) e s' → False) :
    PySem.W.WalkOS q loose XP YP r d [] (fun f vs => PySem.call f vs) := by
  intro w s_0 s₁ mg mb G Y fa o pm cd doc dV kV ho hd hcd hD hmg hg args vals as hpre hlay hrd hwl hlo
  obtain ⟨a, e1, e2⟩ := PySem.W.os_pre_some hpre
  obtain ⟨e3, hwi⟩ := Codec.encAll_of_decAll r.args args a e1
  subst e3
  have KX := hY w _ Y
  obtain ⟨fd, hb, hF⟩ := F w mg fa _ Y KX G.T.g hmg
  refine PySem.W.enter_call (codeAny_mono (spec_call (R := []) (cl := classAt s_0.heap) (d0 := r.ret.enc (Codec.app r.args r.f a)) KX G.T.g G.T.b G.T.builtins G.T.nolimit hg hwl (pl_encAll _ _) (layable_weight hlay) hr hF hb (by rw [encAll_len]; exact hlen)
    (fun H xs hO hS => hsp w H xs a hO hwi e2 hS) fun H e s' => hCX w H s₁ e s') fun r' s' hq => ?_)
  obtain ⟨u, as', rfl, h1, h2, h3, h4⟩ := hq
  exact ⟨.inl ⟨u, _, as', rfl, fun _ => rfl, h1, (OpenSpec.post_iff hwell hwi _ _).mpr rfl, fun z => Bool.noConfusion (show false = true from z)⟩, h2, h3, h4⟩
/-- the same where the promise hangs on the written part alone -/
theorem walk_specK {r : OpenSpec} {k : Nat} {q : Program} {loose : List Str} {XP : (Str → Option Value) → Heap → Prop} {YP : World → Heap → Prop} {d : DefRec} {K : Params → PySem.W.Frag} {CX : CXT} {ps : List Str} {sp : PySem.W.Frag → Sp}
    (hwell : r.wellSaid = true) (hdf : d.params.defaults = []) (hlen : r.args.length = ps.length) (hr : Room k callerA)
    (hY : ∀ (w : World) (h : Heap), YP w h → (K w.params).In h)
    (F : ∀ (w : World) (mg : Str → Option Value) (fa : Addr) (h : Heap), YP w h → (K w.params).In h → h.Ns mainGlobals mg → mg d.name = some (.ref fa) →
      ∃ fd : FuncData, (∀ (s : Shared) (us : List Value), us.length = ps.length → BindsTo s fd ⟨us, []⟩ (ps.zip us)) ∧
        ∀ base : Heap, (K w.params).In base → base.Ns mainGlobals mg → FnOk r.prog w (K w.params) mg base CX k fa fd ps (sp (K w.params)))
    (hsp : ∀ (K : PySem.W.Frag) (H : Hp) (xs : List V) (a : Codec.denoteAll r.args), OnlyF H → Codec.withinAll r.args a = true → Codec.app r.args r.asked a = true → DwAll K H xs (Codec.encAll r.args a) →
      sp K xs H (fun v H' => Dw K H' v (r.ret.enc (Codec.app r.args r.f a))) fun _ _ _ => False)
    (hCX : ∀ (H : Hp) (s : Shared) (e : Value) (s' : Shared), CX [] H s (fun _ _ _ => False) e s' → False) :
    PySem.W.WalkOS q loose XP YP r d [] (fun f vs => PySem.call f vs) :=
  walk_spec (K := K) (CX := fun _ => CX) (sp := fun w => sp (K w.params)) hwell hdf hlen hr hY F (fun w H xs a h1 h2 h3 h4 => hsp (K w.params) H xs a h1 h2 h3 h4) fun _ H s e s' => hCX H s e s'
end L2
end

end
section
set_option autoImplicit false
set_option linter.all false
/-! The game over any cards and suits, and what does not change it. -/
namespace LT

structure G where
  hands : Nat → List Nat
  first : Nat
  trick : List Nat

def G.turn (g : G) : Nat := (g.first + g.trick.length) % 4

def beatsG (sg : Nat → Nat) (t led a b : Nat) : Bool :=
  if sg a = sg b then decide (b < a) else sg a == t || (sg a == led && sg b != t)

def takerG (sg : Nat → Nat) (t : Nat) (l : List Nat) : Nat :=
  (List.range l.length).foldl (fun b i => if beatsG sg t (sg (l.headD 0)) (l.getD i 0) (l.getD b 0) = true then i else b) 0

def May (sg : Nat → Nat) (g : G) (c : Nat) : Prop :=
  c ∈ g.hands g.turn ∧ ∀ l, g.trick.head? = some l → (sg c = sg l ∨ ∀ x ∈ g.hands g.turn, sg x ≠ sg l)

def handsP (g : G) (c : Nat) : Nat → List Nat := fun s => if s = g.turn then (g.hands s).filter (fun x => x != c) else g.hands s

def winner (sg : Nat → Nat) (t : Nat) (g : G) (c : Nat) : Nat := (g.first + takerG sg t (g.trick ++ [c])) % 4

def G.play (sg : Nat → Nat) (t : Nat) (g : G) (c : Nat) : G :=
  if g.trick.length + 1 = 4 then ⟨handsP g c, winner sg t g c, []⟩ else ⟨handsP g c, g.first, g.trick ++ [c]⟩

def gain (sg : Nat → Nat) (t : Nat) (g : G) (c : Nat) : Int := if g.trick.length + 1 = 4 ∧ winner sg t g c % 2 = 0 then 1 else 0

def Win (sg : Nat → Nat) (t : Nat) : Nat → G → Int → Prop
  | 0, _, need => need ≤ 0
  | n + 1, g, need => if g.turn % 2 = 0 then ∃ c, May sg g c ∧ Win sg t n (g.play sg t c) (need - gain sg t g c)
     else ∀ c, May sg g c → Win sg t n (g.play sg t c) (need - gain sg t g c)

def At (g : G) (s c : Nat) : Prop := s < 4 ∧ (c ∈ g.hands s ∨ ∃ i, g.trick[i]? = some c ∧ (g.first + i) % 4 = s)

/-- the cards of g, renamed by f: suits, trump, and the order between cards of different seats are kept -/
structure Sim (sg : Nat → Nat) (t : Nat) (sg' : Nat → Nat) (t' : Nat) (f : Nat → Nat) (g g' : G) : Prop where
  first : g'.first = g.first
  trick : g'.trick = g.trick.map f
  len : g.trick.length < 4
  hands : ∀ s, s < 4 → ∀ x, x ∈ g'.hands s ↔ ∃ c ∈ g.hands s, f c = x
  inj : ∀ s s' c d, At g s c → At g s' d → f c = f d → c = d
  suit : ∀ s s' c d, At g s c → At g s' d → (sg c = sg d ↔ sg' (f c) = sg' (f d))
  trump : ∀ s c, At g s c → (sg c = t ↔ sg' (f c) = t')
  lt : ∀ s s' c d, s ≠ s' → At g s c → At g s' d → sg c = sg d → (c < d ↔ f c < f d)

theorem turn_lt (g : G) : g.turn < 4 := Nat.mod_lt _ (by decide)

theorem fold_congr {n : Nat} {p q : Nat → Nat → Bool} (h : ∀ i b, i < n → b < n → p i b = q i b) : ∀ (L : List Nat) (b : Nat), (∀ i ∈ L, i < n) → b < n →
    L.foldl (fun b i => if p i b = true then i else b) b = L.foldl (fun b i => if q i b = true then i else b) b
  | [], _, _, _ => rfl
  | i :: L, b, hL, hb => by
    have hi : i < n := hL i (List.mem_cons_self)
    have hL' : ∀ j ∈ L, j < n := fun j hj => hL j (List.mem_cons_of_mem _ hj)
    rw [List.foldl_cons, List.foldl_cons, h i b hi hb]
    by_cases e : q i b = true
    · rw [if_pos e]; exact fold_congr h L i hL' hi
    · rw [if_neg e]; exact fold_congr h L b hL' hb

/-- which one takes: it beats all others and none beats it -/
theorem fold_best {n : Nat} {p : Nat → Nat → Bool} {k : Nat} (hk : k < n) (h1 : ∀ j, j < n → j ≠ k → p k j = true) (h2 : ∀ j, j < n → p j k = false) :
    ∀ (m : Nat), m ≤ n → (k < m → (List.range m).foldl (fun b i => if p i b = true then i else b) 0 = k) ∧
      (m ≤ k → (List.range m).foldl (fun b i => if p i b = true then i else b) 0 < max m 1)
  | 0, _ => ⟨fun h => absurd h (Nat.not_lt_zero _), fun _ => by simp⟩
  | m + 1, hm => by
    have ih := fold_best hk h1 h2 m (by omega)
    rw [List.range_succ, List.foldl_append, List.foldl_cons, List.foldl_nil]
    refine ⟨fun h => ?_, fun h => ?_⟩
    · by_cases e : k < m
      · rw [ih.1 e, h2 m (by omega)]; simp
      · have ek : k = m := by omega
        have hb := ih.2 (by omega)
        revert hb
        generalize (List.range m).foldl (fun b i => if p i b = true then i else b) 0 = b
        intro hb
        by_cases eb : b = k
        · subst eb; rw [← ek]; split <;> rfl
        · rw [← ek, h1 b (by omega) eb, if_pos rfl]
    · have hb := ih.2 (by omega)
      revert hb
      generalize (List.range m).foldl (fun b i => if p i b = true then i else b) 0 = b
      intro hb
      split <;> omega

theorem takerG_eq {sg : Nat → Nat} {t : Nat} {l : List Nat} {k : Nat} (hk : k < l.length)
    (h1 : ∀ j, j < l.length → j ≠ k → beatsG sg t (sg (l.headD 0)) (l.getD k 0) (l.getD j 0) = true)
    (h2 : ∀ j, j < l.length → beatsG sg t (sg (l.headD 0)) (l.getD j 0) (l.getD k 0) = false) : takerG sg t l = k :=
  (fold_best (p := fun i b => beatsG sg t (sg (l.headD 0)) (l.getD i 0) (l.getD b 0)) hk h1 h2 l.length (Nat.le_refl _)).1 hk

theorem takerG_congr {sg : Nat → Nat} {t : Nat} {sg' : Nat → Nat} {t' : Nat} {l l' : List Nat} (hl : l'.length = l.length) (h0 : 0 < l.length)
    (h : ∀ i b, i < l.length → b < l.length → beatsG sg t (sg (l.headD 0)) (l.getD i 0) (l.getD b 0) = beatsG sg' t' (sg' (l'.headD 0)) (l'.getD i 0) (l'.getD b 0)) :
    takerG sg t l = takerG sg' t' l' := by
  unfold takerG
  rw [hl]
  exact fold_congr (p := fun i b => beatsG sg t (sg (l.headD 0)) (l.getD i 0) (l.getD b 0)) (q := fun i b => beatsG sg' t' (sg' (l'.headD 0)) (l'.getD i 0) (l'.getD b 0)) h (List.range l.length) 0 (fun i hi => List.mem_range.mp hi) h0

section
variable {sg : Nat → Nat} {t : Nat} {sg' : Nat → Nat} {t' : Nat} {f : Nat → Nat} {g g' : G}

theorem Sim.turn (S : Sim sg t sg' t' f g g') : g'.turn = g.turn := by
  unfold G.turn; rw [S.first, S.trick, List.length_map]

theorem At.hand {s c : Nat} (hs : s < 4) (h : c ∈ g.hands s) : At g s c := ⟨hs, .inl h⟩
theorem At.trick {i c : Nat} (h : g.trick[i]? = some c) : At g ((g.first + i) % 4) c := ⟨Nat.mod_lt _ (by decide), .inr ⟨i, h, rfl⟩⟩

theorem Sim.mayR (S : Sim sg t sg' t' f g g') {c : Nat} (h : May sg g c) : May sg' g' (f c) := by
  obtain ⟨h1, h2⟩ := h
  have hc : At g g.turn c := At.hand (turn_lt g) h1
  refine ⟨?_, fun l hl => ?_⟩
  · rw [S.turn]; exact (S.hands _ (turn_lt g) _).mpr ⟨c, h1, rfl⟩
  · rw [S.trick, List.head?_map] at hl
    cases e : g.trick.head? with
    | none => rw [e] at hl; cases hl
    | some q =>
      rw [e] at hl
      have el : f q = l := Option.some.inj hl
      subst el
      have hq : At g ((g.first + 0) % 4) q := At.trick (by rw [← List.head?_eq_getElem?]; exact e)
      rcases h2 q e with h | h
      · exact .inl ((S.suit _ _ _ _ hc hq).mp h)
      · refine .inr fun x hx => ?_
        rw [S.turn] at hx
        obtain ⟨d, hd, rfl⟩ := (S.hands _ (turn_lt g) _).mp hx
        exact fun z => h d hd ((S.suit _ _ _ _ (At.hand (turn_lt g) hd) hq).mpr z)

theorem Sim.mayL (S : Sim sg t sg' t' f g g') {x : Nat} (h : May sg' g' x) : ∃ c, May sg g c ∧ f c = x := by
  obtain ⟨h1, h2⟩ := h
  rw [S.turn] at h1
  obtain ⟨c, hc, rfl⟩ := (S.hands _ (turn_lt g) _).mp h1
  have hca : At g g.turn c := At.hand (turn_lt g) hc
  refine ⟨c, ⟨hc, fun l hl => ?_⟩, rfl⟩
  have hq : At g ((g.first + 0) % 4) l := At.trick (by rw [← List.head?_eq_getElem?]; exact hl)
  rcases h2 (f l) (by rw [S.trick, List.head?_map, hl]; rfl) with h | h
  · exact .inl ((S.suit _ _ _ _ hca hq).mpr h)
  · refine .inr fun d hd z => ?_
    refine h (f d) ?_ ((S.suit _ _ _ _ (At.hand (turn_lt g) hd) hq).mp z)
    rw [S.turn]; exact (S.hands _ (turn_lt g) _).mpr ⟨d, hd, rfl⟩

/-- the trick with one more card, by seats -/
theorem at_more {c : Nat} (hc : c ∈ g.hands g.turn) {i : Nat} (hi : i < (g.trick ++ [c]).length) : At g ((g.first + i) % 4) ((g.trick ++ [c]).getD i 0) := by
  rw [List.length_append, List.length_singleton] at hi
  by_cases e : i < g.trick.length
  · have e1 : (g.trick ++ [c]).getD i 0 = g.trick[i] := by
      rw [List.getD_eq_getElem?_getD, List.getElem?_append_left e, List.getElem?_eq_getElem e]; rfl
    rw [e1]
    exact At.trick (List.getElem?_eq_getElem e)
  · have ei : i = g.trick.length := by omega
    subst ei
    have e1 : (g.trick ++ [c]).getD g.trick.length 0 = c := by
      rw [List.getD_eq_getElem?_getD, List.getElem?_append_right (Nat.le_refl _), Nat.sub_self]; rfl
    rw [e1]
    exact At.hand (turn_lt g) hc

theorem Sim.winner (S : Sim sg t sg' t' f g g') {c : Nat} (hc : c ∈ g.hands g.turn) : LT.winner sg' t' g' (f c) = LT.winner sg t g c := by
  unfold LT.winner
  rw [S.first, S.trick]
  have e : g.trick.map f ++ [f c] = (g.trick ++ [c]).map f := by rw [List.map_append]; rfl
  rw [e]
  have hlen : (g.trick ++ [c]).length ≤ 4 := by have := S.len; rw [List.length_append, List.length_singleton]; omega
  have h0 : 0 < (g.trick ++ [c]).length := by rw [List.length_append, List.length_singleton]; omega
  have hget : ∀ i, i < (g.trick ++ [c]).length → ((g.trick ++ [c]).map f).getD i 0 = f ((g.trick ++ [c]).getD i 0) := fun i hi => by
    rw [List.getD_eq_getElem?_getD, List.getD_eq_getElem?_getD, List.getElem?_map, List.getElem?_eq_getElem hi]; rfl
  have hhd : ((g.trick ++ [c]).map f).headD 0 = f ((g.trick ++ [c]).headD 0) := by
    cases hq : g.trick ++ [c] with
    | nil => rw [hq] at h0; exact absurd h0 (Nat.lt_irrefl _)
    | cons a r => rfl
  have hh0 : (g.trick ++ [c]).headD 0 = (g.trick ++ [c]).getD 0 0 := by
    cases hq : g.trick ++ [c] with
    | nil => rfl
    | cons a r => rfl
  have a0 : At g ((g.first + 0) % 4) ((g.trick ++ [c]).headD 0) := by rw [hh0]; exact at_more hc h0
  have k : takerG sg t (g.trick ++ [c]) = takerG sg' t' ((g.trick ++ [c]).map f) := by
    refine takerG_congr (by rw [List.length_map]) h0 fun i b hi hb => ?_
    rw [hget i hi, hget b hb, hhd]
    have ai := at_more hc hi
    have ab := at_more hc hb
    generalize hA : (g.trick ++ [c]).getD i 0 = a at ai
    generalize hB : (g.trick ++ [c]).getD b 0 = d at ab
    generalize (g.trick ++ [c]).headD 0 = l at a0
    unfold beatsG
    have s1 := S.suit _ _ _ _ ai ab
    have s2 := S.suit _ _ _ _ ai a0
    have t1 := S.trump _ _ ai
    have t2 := S.trump _ _ ab
    by_cases q : sg a = sg d
    · rw [if_pos q, if_pos (s1.mp q)]
      by_cases eib : i = b
      · subst eib
        have : a = d := hA.symm.trans hB
        subst this
        rw [decide_eq_false (Nat.lt_irrefl _), decide_eq_false (Nat.lt_irrefl _)]
      · have ne : (g.first + b) % 4 ≠ (g.first + i) % 4 := by
          omega
        have := S.lt _ _ _ _ ne ab ai q.symm
        exact decide_eq_decide.mpr this
    · rw [if_neg q, if_neg (fun z => q (s1.mpr z))]
      have e1 : (sg a == t) = (sg' (f a) == t') := by
        rw [Bool.eq_iff_iff, beq_iff_eq, beq_iff_eq]; exact t1
      have e2 : (sg d != t) = (sg' (f d) != t') := by
        rw [Bool.eq_iff_iff, bne_iff_ne, bne_iff_ne]; exact not_congr t2
      have e3 : (sg a == sg l) = (sg' (f a) == sg' (f l)) := by
        rw [Bool.eq_iff_iff, beq_iff_eq, beq_iff_eq]; exact s2
      rw [e1, e2, e3]
  rw [k]

theorem Sim.gain (S : Sim sg t sg' t' f g g') {c : Nat} (hc : c ∈ g.hands g.turn) : LT.gain sg' t' g' (f c) = LT.gain sg t g c := by
  unfold LT.gain
  rw [S.winner hc, S.trick, List.length_map]

theorem At.back {c : Nat} (hc : c ∈ g.hands g.turn) {s d : Nat} (h : At (g.play sg t c) s d) : At g s d := by
  unfold G.play at h
  obtain ⟨hs, h⟩ := h
  have hh : ∀ x, x ∈ handsP g c s → At g s x := fun x hx => by
    unfold handsP at hx
    by_cases e : s = g.turn
    · rw [if_pos e] at hx; exact At.hand hs (List.mem_filter.mp hx).1
    · rw [if_neg e] at hx; exact At.hand hs hx
  by_cases e : g.trick.length + 1 = 4
  · rw [if_pos e] at h
    rcases h with h | ⟨i, hi, _⟩
    · exact hh _ h
    · simp at hi
  · rw [if_neg e] at h
    rcases h with h | ⟨i, hi, he⟩
    · exact hh _ h
    · have hi' : i < (g.trick ++ [c]).length := (List.getElem?_eq_some_iff.mp hi).1
      have := at_more hc hi'
      rw [List.getD_eq_getElem?_getD, hi] at this
      rw [← he]
      exact this

theorem Sim.play (S : Sim sg t sg' t' f g g') {c : Nat} (hc : c ∈ g.hands g.turn) : Sim sg t sg' t' f (g.play sg t c) (g'.play sg' t' (f c)) := by
  have ac : At g g.turn c := At.hand (turn_lt g) hc
  have hh : ∀ s, s < 4 → ∀ x, x ∈ handsP g' (f c) s ↔ ∃ d ∈ handsP g c s, f d = x := fun s hs x => by
    unfold handsP
    rw [S.turn]
    by_cases e : s = g.turn
    · rw [if_pos e, if_pos e, List.mem_filter, S.hands s hs]
      constructor
      · rintro ⟨⟨d, hd, rfl⟩, hne⟩
        refine ⟨d, List.mem_filter.mpr ⟨hd, ?_⟩, rfl⟩
        rw [bne_iff_ne] at hne ⊢
        exact fun z => hne (by rw [z])
      · rintro ⟨d, hd, rfl⟩
        obtain ⟨hd1, hd2⟩ := List.mem_filter.mp hd
        refine ⟨⟨d, hd1, rfl⟩, ?_⟩
        rw [bne_iff_ne] at hd2 ⊢
        exact fun z => hd2 (S.inj _ _ _ _ (At.hand hs hd1) ac z)
    · rw [if_neg e, if_neg e]; exact S.hands s hs x
  have hback : ∀ {s d : Nat}, At (g.play sg t c) s d → At g s d := fun h => At.back hc h
  have hlen := S.len
  have e0 : g'.trick.length = g.trick.length := by rw [S.trick, List.length_map]
  refine ⟨?_, ?_, ?_, ?_, fun s s' a d h1 h2 => S.inj s s' a d (hback h1) (hback h2), fun s s' a d h1 h2 => S.suit s s' a d (hback h1) (hback h2), fun s a h1 => S.trump s a (hback h1), fun s s' a d hn h1 h2 => S.lt s s' a d hn (hback h1) (hback h2)⟩
  · unfold G.play
    rw [e0]
    by_cases e : g.trick.length + 1 = 4
    · rw [if_pos e, if_pos e]; exact S.winner hc
    · rw [if_neg e, if_neg e]; exact S.first
  · unfold G.play
    rw [e0]
    by_cases e : g.trick.length + 1 = 4
    · rw [if_pos e, if_pos e]; rfl
    · rw [if_neg e, if_neg e, S.trick]
      show g.trick.map f ++ [f c] = (g.trick ++ [c]).map f
      rw [List.map_append]; rfl
  · unfold G.play
    by_cases e : g.trick.length + 1 = 4
    · rw [if_pos e]; show (0 : Nat) < 4; decide
    · rw [if_neg e]
      show (g.trick ++ [c]).length < 4
      rw [List.length_append, List.length_singleton]; omega
  · unfold G.play
    rw [e0]
    by_cases e : g.trick.length + 1 = 4
    · rw [if_pos e, if_pos e]; exact hh
    · rw [if_neg e, if_neg e]; exact hh

/-- THE RENAMING: nothing changes -/
theorem Sim.win : ∀ (n : Nat) {g g' : G} (need : Int), Sim sg t sg' t' f g g' → (Win sg t n g need ↔ Win sg' t' n g' need)
  | 0, _, _, _, _ => Iff.rfl
  | n + 1, g, g', need, S => by
    unfold Win
    rw [S.turn]
    by_cases e : g.turn % 2 = 0
    · rw [if_pos e, if_pos e]
      constructor
      · rintro ⟨c, hm, hw⟩
        refine ⟨f c, S.mayR hm, ?_⟩
        rw [S.gain hm.1]
        exact (Sim.win n _ (S.play hm.1)).mp hw
      · rintro ⟨x, hm, hw⟩
        obtain ⟨c, hc, rfl⟩ := S.mayL hm
        refine ⟨c, hc, ?_⟩
        rw [S.gain hc.1] at hw
        exact (Sim.win n _ (S.play hc.1)).mpr hw
    · rw [if_neg e, if_neg e]
      constructor
      · intro h x hm
        obtain ⟨c, hc, rfl⟩ := S.mayL hm
        rw [S.gain hc.1]
        exact (Sim.win n _ (S.play hc.1)).mp (h c hc)
      · intro h c hc
        have := h (f c) (S.mayR hc)
        rw [S.gain hc.1] at this
        exact (Sim.win n _ (S.play hc.1)).mpr this
end
end LT

end
section
set_option autoImplicit false
set_option linter.all false
/-! The specification's game as a game over any cards: value and Win. -/
namespace LT
open Sy12 (Game suit height beats taker side value)

/-- m cards a hand (one less where the seat has played to the trick) -/
structure WF (m : Nat) (g : G) : Prop where
  first : g.first < 4
  len : g.trick.length < 4
  pos : g.trick ≠ [] → 1 ≤ m
  cnt : ∀ s, s < 4 → (g.hands s).length = if (s + 4 - g.first) % 4 < g.trick.length then m - 1 else m
  nd : ∀ s, s < 4 → (g.hands s).Nodup

theorem filter_ne_length {c : Nat} : ∀ {l : List Nat}, l.Nodup → c ∈ l → (l.filter (fun x => x != c)).length + 1 = l.length
  | [], _, h => by cases h
  | a :: l, hn, h => by
    obtain ⟨h1, h2⟩ := List.nodup_cons.mp hn
    by_cases e : a = c
    · subst e
      have : l.filter (fun x => x != a) = l := by
        rw [List.filter_eq_self]
        intro x hx
        rw [bne_iff_ne]
        exact fun z => h1 (z ▸ hx)
      rw [List.filter_cons, if_neg (by simp), this]; rfl
    · have hc : c ∈ l := by
        rcases List.mem_cons.mp h with z | z
        · exact absurd z.symm e
        · exact z
      rw [List.filter_cons, if_pos (by rw [bne_iff_ne]; exact e), List.length_cons, List.length_cons, filter_ne_length h2 hc]

section
variable {sg : Nat → Nat} {t m : Nat} {g : G}

theorem WF.turnLen (W : WF m g) : (g.hands g.turn).length = m := by
  rw [W.cnt _ (turn_lt g), if_neg]
  have h1 := W.first
  have h2 := W.len
  unfold G.turn
  omega

theorem WF.may_ex (W : WF m g) (hm : 1 ≤ m) : ∃ c, May sg g c := by
  have hl := W.turnLen
  cases hh : g.hands g.turn with
  | nil => rw [hh] at hl; simp at hl; omega
  | cons a r =>
    cases ht : g.trick with
    | nil => exact ⟨a, by rw [hh]; exact List.mem_cons_self, fun l hl => by rw [ht] at hl; cases hl⟩
    | cons q r' =>
      by_cases e : ∃ x ∈ g.hands g.turn, sg x = sg q
      · obtain ⟨x, hx, e⟩ := e
        refine ⟨x, hx, fun l hl => ?_⟩
        rw [ht] at hl
        have : q = l := Option.some.inj hl
        subst this
        exact .inl e
      · refine ⟨a, by rw [hh]; exact List.mem_cons_self, fun l hl => ?_⟩
        rw [ht] at hl
        have : q = l := Option.some.inj hl
        subst this
        exact .inr fun x hx z => e ⟨x, hx, z⟩

theorem WF.pos_of (W : WF m g) {c : Nat} (hc : c ∈ g.hands g.turn) : 1 ≤ m := by
  have := W.turnLen
  have h2 := List.length_pos_of_mem hc
  omega

theorem WF.play (W : WF m g) {c : Nat} (hc : c ∈ g.hands g.turn) : WF (if g.trick.length + 1 = 4 then m - 1 else m) (g.play sg t c) := by
  have hm := W.pos_of hc
  have h1 := W.first
  have h2 := W.len
  have hl : ∀ s, s < 4 → (handsP g c s).length = if (s + 4 - g.first) % 4 < g.trick.length + 1 then m - 1 else m := fun s hs => by
    unfold handsP
    by_cases e : s = g.turn
    · rw [if_pos e]
      subst e
      have := filter_ne_length (W.nd _ hs) hc
      rw [W.turnLen] at this
      rw [if_pos]
      · omega
      · unfold G.turn; omega
    · rw [if_neg e, W.cnt s hs]
      have : ((s + 4 - g.first) % 4 < g.trick.length) ↔ ((s + 4 - g.first) % 4 < g.trick.length + 1) := by
        have : (s + 4 - g.first) % 4 ≠ g.trick.length := by
          intro z
          apply e
          unfold G.turn
          omega
        omega
      simp only [this]
  have hn : ∀ s, s < 4 → (handsP g c s).Nodup := fun s hs => by
    unfold handsP
    by_cases e : s = g.turn
    · rw [if_pos e]; exact (W.nd s hs).filter _
    · rw [if_neg e]; exact W.nd s hs
  unfold G.play
  by_cases e : g.trick.length + 1 = 4
  · rw [if_pos e, if_pos e]
    refine ⟨Nat.mod_lt _ (by decide), (by show (0 : Nat) < 4; decide), fun h => absurd rfl h, fun s hs => ?_, hn⟩
    show (handsP g c s).length = _
    rw [hl s hs, if_pos (by omega), if_neg]
    show ¬ _ < 0
    omega
  · rw [if_neg e, if_neg e]
    refine ⟨h1, by show (g.trick ++ [c]).length < 4; rw [List.length_append, List.length_singleton]; omega, fun _ => hm, fun s hs => ?_, hn⟩
    show (handsP g c s).length = if _ < (g.trick ++ [c]).length then _ else _
    rw [hl s hs, List.length_append, List.length_singleton]

/-- no more than one a hand card can be taken -/
theorem win_le : ∀ (n : Nat) {m : Nat} {g : G} {need : Int}, WF m g → n + g.trick.length = 4 * m → Win sg t n g need → need ≤ m
  | 0, m, g, need, W, hn, h => by
    have h : need ≤ 0 := h
    omega
  | n + 1, m, g, need, W, hn, h => by
    have hm : 1 ≤ m := by omega
    have key : ∀ c, May sg g c → Win sg t n (g.play sg t c) (need - gain sg t g c) → need ≤ m := fun c hc hw => by
      have W' := W.play (sg := sg) (t := t) hc.1
      have hg : gain sg t g c ≤ if g.trick.length + 1 = 4 then 1 else 0 := by
        unfold gain
        split
        · rename_i z; rw [if_pos z.1]; exact Int.le_refl _
        · split <;> decide
      by_cases e : g.trick.length + 1 = 4
      · rw [if_pos e] at W' hg
        have := win_le n W' (by unfold G.play; rw [if_pos e]; show n + 0 = _; omega) hw
        omega
      · rw [if_neg e] at W' hg
        have := win_le n W' (by unfold G.play; rw [if_neg e]; show n + (g.trick ++ [c]).length = _; rw [List.length_append, List.length_singleton]; omega) hw
        omega
    obtain ⟨c0, hc0⟩ := W.may_ex (sg := sg) hm
    unfold Win at h
    by_cases e : g.turn % 2 = 0
    · rw [if_pos e] at h
      obtain ⟨c, hc, hw⟩ := h
      exact key c hc hw
    · rw [if_neg e] at h
      exact key c0 hc0 (h c0 hc0)

theorem gain_nonneg (g : G) (c : Nat) : 0 ≤ gain sg t g c := by unfold gain; split <;> decide

/-- nothing is always reached -/
theorem win_zero : ∀ (n : Nat) {m : Nat} {g : G} {need : Int}, WF m g → n + g.trick.length = 4 * m → need ≤ 0 → Win sg t n g need
  | 0, m, g, need, W, hn, h => h
  | n + 1, m, g, need, W, hn, h => by
    have hm : 1 ≤ m := by omega
    have key : ∀ c, May sg g c → Win sg t n (g.play sg t c) (need - gain sg t g c) := fun c hc => by
      have W' := W.play (sg := sg) (t := t) hc.1
      have hg := gain_nonneg (sg := sg) (t := t) g c
      by_cases e : g.trick.length + 1 = 4
      · rw [if_pos e] at W'
        exact win_zero n W' (by unfold G.play; rw [if_pos e]; show n + 0 = _; omega) (by omega)
      · rw [if_neg e] at W'
        exact win_zero n W' (by unfold G.play; rw [if_neg e]; show n + (g.trick ++ [c]).length = _; rw [List.length_append, List.length_singleton]; omega) (by omega)
    obtain ⟨c0, hc0⟩ := W.may_ex (sg := sg) hm
    unfold Win
    by_cases e : g.turn % 2 = 0
    · rw [if_pos e]; exact ⟨c0, hc0, key c0 hc0⟩
    · rw [if_neg e]; exact key
end

/-! ### the specification's game -/
def toG (g : Game) : G := ⟨fun s => g.hand s, g.first, g.trick⟩

theorem beats_eq (t led a b : Nat) : beats t led a b = (if suit a = suit b then decide (b < a) else suit a == t || (suit a == led && suit b != t)) := by
  unfold beats
  by_cases e : suit a = suit b
  · rw [if_pos e, if_pos e]
    unfold suit at e
    unfold height
    exact decide_eq_decide.mpr (by omega)
  · rw [if_neg e, if_neg e]

theorem taker_eq (t : Nat) (l : List Nat) : taker t l = takerG suit t l := by
  unfold taker takerG
  have : (fun b i => if beats t (suit (l.headD 0)) (l.getD i 0) (l.getD b 0) = true then i else b) = (fun b i => if beatsG suit t (suit (l.headD 0)) (l.getD i 0) (l.getD b 0) = true then i else b) := by
    funext b i
    rw [beats_eq]; rfl
  exact congrArg (fun q => List.foldl q 0 (List.range l.length)) this

theorem turn_toG (g : Game) : (toG g).turn = g.turn := rfl

theorem may_iff (g : Game) (c : Nat) : c ∈ g.may ↔ May suit (toG g) c := by
  unfold Game.may May
  show c ∈ (match g.trick with | [] => g.hand g.turn | d :: _ => if (g.hand g.turn).any (fun x => suit x == suit d) = true then (g.hand g.turn).filter (fun x => suit x == suit d) else g.hand g.turn) ↔ c ∈ g.hand g.turn ∧ ∀ l, g.trick.head? = some l → (suit c = suit l ∨ ∀ x ∈ g.hand g.turn, suit x ≠ suit l)
  cases g.trick with
  | nil => exact ⟨fun h => ⟨h, fun l hl => by cases hl⟩, fun h => h.1⟩
  | cons d r =>
    show c ∈ (if (g.hand g.turn).any (fun x => suit x == suit d) = true then (g.hand g.turn).filter (fun x => suit x == suit d) else g.hand g.turn) ↔ _
    by_cases e : (g.hand g.turn).any (fun x => suit x == suit d) = true
    · rw [if_pos e]
      rw [List.any_eq_true] at e
      obtain ⟨x, hx, ex⟩ := e
      rw [beq_iff_eq] at ex
      rw [List.mem_filter, beq_iff_eq]
      constructor
      · rintro ⟨h1, h2⟩
        refine ⟨h1, fun l hl => ?_⟩
        have : d = l := Option.some.inj hl
        subst this; exact .inl h2
      · rintro ⟨h1, h2⟩
        rcases h2 d rfl with z | z
        · exact ⟨h1, z⟩
        · exact absurd ex (z x hx)
    · rw [if_neg e]
      constructor
      · intro h
        refine ⟨h, fun l hl => .inr fun x hx z => e ?_⟩
        have : d = l := Option.some.inj hl
        subst this
        rw [List.any_eq_true]
        exact ⟨x, hx, by rw [beq_iff_eq]; exact z⟩
      · exact fun h => h.1

theorem G.ext' {a b : G} (h1 : a.hands = b.hands) (h2 : a.first = b.first) (h3 : a.trick = b.trick) : a = b := by
  cases a; cases b; simp_all

theorem turn_lt4 (g : Game) : g.turn < 4 := Nat.mod_lt _ (by decide)

theorem hands_play (g : Game) (h4 : g.hands.length = 4) (c s : Nat) : (g.hands.set g.turn ((g.hand g.turn).filter fun x => x != c)).getD s [] = handsP (toG g) c s := by
  unfold handsP
  rw [List.getD_eq_getElem?_getD]
  show _ = if s = g.turn then (g.hand s).filter (fun x => x != c) else g.hand s
  by_cases e : s = g.turn
  · subst e
    rw [if_pos rfl, List.getElem?_set_self (by rw [h4]; exact turn_lt4 g)]
    rfl
  · rw [if_neg e, List.getElem?_set_ne (fun z => e z.symm)]
    unfold Game.hand
    rw [List.getD_eq_getElem?_getD]

theorem play_toG (g : Game) (h4 : g.hands.length = 4) (c : Nat) : toG (g.play c).1 = (toG g).play suit g.trump c := by
  unfold Game.play G.play
  show toG (if (g.trick ++ [c]).length = 4 then _ else _ : Game × Nat).1 = if g.trick.length + 1 = 4 then _ else _
  rw [List.length_append, List.length_singleton]
  by_cases e : g.trick.length + 1 = 4
  · rw [if_pos e, if_pos e]
    refine G.ext' ?_ ?_ rfl
    · funext s; exact hands_play g h4 c s
    · show (g.first + taker g.trump (g.trick ++ [c])) % 4 = winner suit g.trump (toG g) c
      unfold winner
      rw [taker_eq]; rfl
  · rw [if_neg e, if_neg e]
    refine G.ext' ?_ rfl rfl
    funext s; exact hands_play g h4 c s

theorem gain_pos {sg : Nat → Nat} {t : Nat} {g : G} {c : Nat} (h : g.trick.length + 1 = 4) (h2 : winner sg t g c % 2 = 0) : gain sg t g c = 1 := by unfold gain; rw [if_pos ⟨h, h2⟩]
theorem gain_odd {sg : Nat → Nat} {t : Nat} {g : G} {c : Nat} (h2 : ¬ winner sg t g c % 2 = 0) : gain sg t g c = 0 := by unfold gain; rw [if_neg (fun z => h2 z.2)]
theorem gain_mid {sg : Nat → Nat} {t : Nat} {g : G} {c : Nat} (h : ¬ g.trick.length + 1 = 4) : gain sg t g c = 0 := by unfold gain; rw [if_neg (fun z => h z.1)]
theorem gain_toG (g : Game) (c : Nat) : ((g.play c).2 : Int) = gain suit g.trump (toG g) c := by
  have ew : (g.first + taker g.trump (g.trick ++ [c])) % 4 = winner suit g.trump (toG g) c := by
    unfold winner
    rw [taker_eq]; rfl
  unfold Game.play
  show (((if (g.trick ++ [c]).length = 4 then _ else _ : Game × Nat).2 : Nat) : Int) = _
  rw [List.length_append, List.length_singleton]
  by_cases e : g.trick.length + 1 = 4
  · rw [if_pos e]
    show (((if side ((g.first + taker g.trump (g.trick ++ [c])) % 4) = true then 1 else 0 : Nat) : Nat) : Int) = _
    rw [ew]
    unfold side
    by_cases q : winner suit g.trump (toG g) c % 2 = 0
    · rw [if_pos (by rw [beq_iff_eq]; exact q), gain_pos e q]; rfl
    · rw [if_neg (by rw [beq_iff_eq]; exact q), gain_odd q]; rfl
  · rw [if_neg e, gain_mid e]; rfl

theorem play_len (g : Game) (h4 : g.hands.length = 4) (c : Nat) : (g.play c).1.hands.length = 4 := by
  unfold Game.play
  show (if (g.trick ++ [c]).length = 4 then _ else _ : Game × Nat).1.hands.length = 4
  split
  · show (g.hands.set _ _).length = 4; rw [List.length_set]; exact h4
  · show (g.hands.set _ _).length = 4; rw [List.length_set]; exact h4
theorem play_trump (g : Game) (c : Nat) : (g.play c).1.trump = g.trump := by
  unfold Game.play
  show (if (g.trick ++ [c]).length = 4 then _ else _ : Game × Nat).1.trump = g.trump
  split <;> rfl

theorem foldl_max : ∀ (r : List Nat) (x : Nat) (need : Int), (need ≤ ((r.foldl (fun b y => if true = true then max b y else min b y) x : Nat) : Int)) ↔ ∃ y ∈ x :: r, need ≤ (y : Int)
  | [], x, need => by simp
  | y :: r, x, need => by
    rw [List.foldl_cons, foldl_max r]
    show (∃ z ∈ max x y :: r, need ≤ (z : Int)) ↔ _
    constructor
    · rintro ⟨z, hz, h⟩
      rcases List.mem_cons.mp hz with rfl | hz
      · by_cases e : x ≤ y
        · rw [Nat.max_eq_right e] at h; exact ⟨y, by simp, h⟩
        · rw [Nat.max_eq_left (by omega)] at h; exact ⟨x, by simp, h⟩
      · exact ⟨z, by simp [hz], h⟩
    · rintro ⟨z, hz, h⟩
      rcases List.mem_cons.mp hz with rfl | hz
      · exact ⟨max z y, List.mem_cons_self, by omega⟩
      rcases List.mem_cons.mp hz with rfl | hz
      · exact ⟨max x z, List.mem_cons_self, by omega⟩
      · exact ⟨z, List.mem_cons_of_mem _ hz, h⟩

theorem foldl_min : ∀ (r : List Nat) (x : Nat) (need : Int), (need ≤ ((r.foldl (fun b y => if false = true then max b y else min b y) x : Nat) : Int)) ↔ ∀ y ∈ x :: r, need ≤ (y : Int)
  | [], x, need => by simp
  | y :: r, x, need => by
    rw [List.foldl_cons, foldl_min r]
    show (∀ z ∈ min x y :: r, need ≤ (z : Int)) ↔ _
    constructor
    · intro h z hz
      have h0 := h (min x y) List.mem_cons_self
      rcases List.mem_cons.mp hz with rfl | hz
      · omega
      rcases List.mem_cons.mp hz with rfl | hz
      · omega
      · exact h z (List.mem_cons_of_mem _ hz)
    · intro h z hz
      have h1 := h x (by simp)
      have h2 := h y (by simp)
      rcases List.mem_cons.mp hz with rfl | hz
      · omega
      · exact h z (by simp [hz])

theorem best_iff (mine : Bool) {l : List Nat} (hl : l ≠ []) (need : Int) : need ≤ ((Sy12.best mine l : Nat) : Int) ↔ if mine = true then ∃ y ∈ l, need ≤ (y : Int) else ∀ y ∈ l, need ≤ (y : Int) := by
  cases l with
  | nil => exact absurd rfl hl
  | cons x r =>
    cases mine with
    | true => exact foldl_max r x need
    | false => exact foldl_min r x need

theorem play_trick_len (g : Game) (c : Nat) : (g.play c).1.trick.length = if g.trick.length + 1 = 4 then 0 else g.trick.length + 1 := by
  unfold Game.play
  show (if (g.trick ++ [c]).length = 4 then _ else _ : Game × Nat).1.trick.length = _
  rw [List.length_append, List.length_singleton]
  by_cases e : g.trick.length + 1 = 4
  · rw [if_pos e, if_pos e]; rfl
  · rw [if_neg e, if_neg e]; show (g.trick ++ [c]).length = _; rw [List.length_append, List.length_singleton]

/-- a game of the specification that is well formed, with m cards a hand -/
structure GOk (m : Nat) (g : Game) : Prop where
  h4 : g.hands.length = 4
  wf : WF m (toG g)

theorem GOk.play {m : Nat} {g : Game} (W : GOk m g) {c : Nat} (hc : c ∈ g.may) : GOk (if g.trick.length + 1 = 4 then m - 1 else m) (g.play c).1 := by
  refine ⟨play_len g W.h4 c, ?_⟩
  rw [play_toG g W.h4]
  exact W.wf.play ((may_iff g c).mp hc).1

/-- THE VALUE is at least need just where the game can be won so -/
theorem value_iff : ∀ (n : Nat) {m : Nat} {g : Game} (need : Int), GOk m g → n + g.trick.length = 4 * m → (need ≤ ((value n g : Nat) : Int) ↔ Win suit g.trump n (toG g) need)
  | 0, m, g, need, W, hn => Iff.rfl
  | n + 1, m, g, need, W, hn => by
    have hm : 1 ≤ m := by omega
    obtain ⟨c0, hc0⟩ := W.wf.may_ex (sg := suit) hm
    have hne : g.may.map (fun c => (g.play c).2 + value n (g.play c).1) ≠ [] := by
      intro z
      have : g.may = [] := List.map_eq_nil_iff.mp z
      have h := (may_iff g c0).mpr hc0
      rw [this] at h; cases h
    have key : ∀ c, c ∈ g.may → (need ≤ (((g.play c).2 + value n (g.play c).1 : Nat) : Int) ↔ Win suit g.trump n ((toG g).play suit g.trump c) (need - gain suit g.trump (toG g) c)) := fun c hc => by
      have W' := W.play hc
      have ih := value_iff n (need - gain suit g.trump (toG g) c) W' (by
        rw [play_trick_len]
        by_cases e : g.trick.length + 1 = 4
        · rw [if_pos e, if_pos e]; omega
        · rw [if_neg e, if_neg e]; omega)
      rw [play_trump, play_toG g W.h4] at ih
      rw [← ih, ← gain_toG]
      omega
    show need ≤ ((Sy12.best (side g.turn) (g.may.map fun c => (g.play c).2 + value n (g.play c).1) : Nat) : Int) ↔ _
    rw [best_iff _ hne]
    unfold Win
    show _ ↔ if g.turn % 2 = 0 then _ else _
    unfold side
    by_cases e : g.turn % 2 = 0
    · rw [if_pos e, if_pos (by rw [beq_iff_eq]; exact e)]
      constructor
      · rintro ⟨y, hy, h⟩
        obtain ⟨c, hc, rfl⟩ := List.mem_map.mp hy
        exact ⟨c, (may_iff g c).mp hc, (key c hc).mp h⟩
      · rintro ⟨c, hc, h⟩
        have hc' := (may_iff g c).mpr hc
        exact ⟨_, List.mem_map.mpr ⟨c, hc', rfl⟩, (key c hc').mpr h⟩
    · rw [if_neg e, if_neg (by rw [beq_iff_eq]; exact e)]
      constructor
      · intro h c hc
        have hc' := (may_iff g c).mpr hc
        exact (key c hc').mp (h _ (List.mem_map.mpr ⟨c, hc', rfl⟩))
      · intro h y hy
        obtain ⟨c, hc, rfl⟩ := List.mem_map.mp hy
        exact (key c hc).mpr (h c ((may_iff g c).mp hc))
end LT

end
section
set_option autoImplicit false
set_option linter.all false
/-! The order: a list of seats (0 to 3) and fences (4); a card is a place in it. -/
namespace LT

def sAt (w : List Nat) (p : Nat) : Nat := (w.take p).count 4
def tS (w : List Nat) : Nat := w.count 4
def handW (w played : List Nat) (s : Nat) : List Nat := (List.range w.length).filter (fun p => w[p]? == some s && !played.contains p)
def gameW (w : List Nat) (lead : Nat) (played : List Nat) : G := ⟨handW w played, lead, played⟩

/-- every seat has m cards -/
def OkW (m : Nat) (w : List Nat) : Prop := ∀ s, s < 4 → w.count s = m
/-- the places played are the seats' own -/
structure PlOk (w : List Nat) (lead : Nat) (played : List Nat) : Prop where
  ld : lead < 4
  at_ : ∀ (i p : Nat), played[i]? = some p → w[p]? = some ((lead + i) % 4)
  len : played.length ≤ 4

theorem mem_handW {w played : List Nat} {s p : Nat} : p ∈ handW w played s ↔ w[p]? = some s ∧ p ∉ played := by
  unfold handW
  rw [List.mem_filter, List.mem_range, Bool.and_eq_true, beq_iff_eq]
  constructor
  · rintro ⟨_, h1, h2⟩
    refine ⟨h1, fun z => ?_⟩
    rw [List.contains_iff_mem.mpr z] at h2
    exact absurd h2 (by decide)
  · rintro ⟨h1, h2⟩
    refine ⟨(List.getElem?_eq_some_iff.mp h1).1, h1, ?_⟩
    cases e : played.contains p with
    | false => rfl
    | true => exact absurd (List.contains_iff_mem.mp e) h2

theorem PlOk.nil {w : List Nat} {lead : Nat} (h : lead < 4) : PlOk w lead [] := ⟨h, fun i p h => by simp at h, by decide⟩
theorem PlOk.init {w ps : List Nat} {lead p : Nat} (h : PlOk w lead (ps ++ [p])) : PlOk w lead ps :=
  ⟨h.ld, fun i q e => h.at_ i q (by rw [List.getElem?_append_left (List.getElem?_eq_some_iff.mp e).1]; exact e), by have := h.len; rw [List.length_append, List.length_singleton] at this; omega⟩
theorem PlOk.last {w ps : List Nat} {lead p : Nat} (h : PlOk w lead (ps ++ [p])) : w[p]? = some ((lead + ps.length) % 4) :=
  h.at_ ps.length p (by rw [List.getElem?_append_right (Nat.le_refl _), Nat.sub_self]; rfl)
theorem PlOk.snoc {w ps : List Nat} {lead p : Nat} (h : PlOk w lead ps) (hl : ps.length < 4) (hp : w[p]? = some ((lead + ps.length) % 4)) : PlOk w lead (ps ++ [p]) := by
  refine ⟨h.ld, fun i q e => ?_, by rw [List.length_append, List.length_singleton]; omega⟩
  by_cases hi : i < ps.length
  · rw [List.getElem?_append_left hi] at e; exact h.at_ i q e
  · have hi' : i < (ps ++ [p]).length := (List.getElem?_eq_some_iff.mp e).1
    rw [List.length_append, List.length_singleton] at hi'
    have : i = ps.length := by omega
    subst this
    rw [List.getElem?_append_right (Nat.le_refl _), Nat.sub_self] at e
    have : p = q := Option.some.inj e
    subst this; exact hp

theorem turnW (w : List Nat) (lead : Nat) (played : List Nat) : (gameW w lead played).turn = (lead + played.length) % 4 := rfl

/-- who has the turn has not played -/
theorem PlOk.fresh {w ps : List Nat} {lead p : Nat} (h : PlOk w lead ps) (hl : ps.length < 4) (hp : w[p]? = some ((lead + ps.length) % 4)) : p ∉ ps := fun z => by
  obtain ⟨i, hi, e⟩ := List.getElem_of_mem z
  have := h.at_ i p (by rw [List.getElem?_eq_getElem hi, e])
  rw [hp] at this
  have := Option.some.inj this
  omega

theorem handW_snoc {w ps : List Nat} {lead p : Nat} (hp : w[p]? = some ((lead + ps.length) % 4)) : handW w (ps ++ [p]) = handsP (gameW w lead ps) p := by
  funext s
  unfold handsP
  rw [turnW]
  show _ = if s = (lead + ps.length) % 4 then (handW w ps s).filter (fun x => x != p) else handW w ps s
  have hc : ∀ q, (ps ++ [p]).contains q = (ps.contains q || q == p) := fun q => by
    rw [Bool.eq_iff_iff, Bool.or_eq_true, List.contains_iff_mem, List.contains_iff_mem, List.mem_append, List.mem_singleton, beq_iff_eq]
  unfold handW
  by_cases e : s = (lead + ps.length) % 4
  · rw [if_pos e, List.filter_filter]
    refine List.filter_congr fun q hq => ?_
    rw [hc, Bool.not_or]
    show _ = ((!(q == p)) && _)
    generalize (w[q]? == some s) = a
    generalize ps.contains q = b
    generalize (q == p) = d
    cases a <;> cases b <;> cases d <;> rfl
  · rw [if_neg e]
    refine List.filter_congr fun q hq => ?_
    rw [hc]
    by_cases eq : q = p
    · subst eq
      rw [hp]
      have : (some ((lead + ps.length) % 4) == some s) = false := by
        rw [beq_eq_false_iff_ne]; exact fun z => e (Option.some.inj z).symm
      rw [this]; rfl
    · have : (q == p) = false := beq_eq_false_iff_ne.mpr eq
      rw [this, Bool.or_false]

theorem playW {w ps : List Nat} {lead p : Nat} (hl : ps.length + 1 < 4) (hp : w[p]? = some ((lead + ps.length) % 4)) (sg : Nat → Nat) (t : Nat) :
    (gameW w lead ps).play sg t p = gameW w lead (ps ++ [p]) := by
  unfold G.play
  rw [if_neg (by show ¬ ps.length + 1 = 4; omega)]
  refine G.ext' ?_ rfl rfl
  exact (handW_snoc hp).symm

theorem take_succ {w : List Nat} {n x : Nat} (h : w[n]? = some x) : w.take (n + 1) = w.take n ++ [x] := by
  rw [List.take_add_one, h]; rfl

theorem countW_upto (w : List Nat) (s : Nat) : ∀ n, n ≤ w.length → ((List.range n).filter (fun p => w[p]? == some s)).length = (w.take n).count s
  | 0, _ => by simp
  | n + 1, h => by
    have hx : w[n]? = some w[n] := List.getElem?_eq_getElem (by omega)
    rw [List.range_succ, List.filter_append, List.length_append, countW_upto w s n (by omega), take_succ hx, List.count_append]
    congr 1
    rw [List.filter_cons, hx, List.filter_nil, List.count_singleton]
    by_cases e : w[n] = s
    · rw [if_pos (by rw [beq_iff_eq, e]), if_pos (by rw [beq_iff_eq]; exact e)]; rfl
    · rw [if_neg (by rw [beq_iff_eq]; exact fun z => e (Option.some.inj z)), if_neg (by rw [beq_iff_eq]; exact e)]; rfl

theorem handW_nil (w : List Nat) (s : Nat) : handW w [] s = (List.range w.length).filter (fun p => w[p]? == some s) := by
  unfold handW
  refine List.filter_congr fun q _ => ?_
  show ((w[q]? == some s) && !false) = _
  rw [Bool.not_false, Bool.and_true]

theorem handW_len (w : List Nat) (s : Nat) : (handW w [] s).length = w.count s := by
  rw [handW_nil, countW_upto w s w.length (Nat.le_refl _), List.take_length]

theorem nodup_handW (w played : List Nat) (s : Nat) : (handW w played s).Nodup := List.nodup_range.filter _

theorem wf0 {m : Nat} {w : List Nat} {lead : Nat} (h : OkW m w) (hl : lead < 4) : WF m (gameW w lead []) := by
  refine ⟨hl, (by show (0 : Nat) < 4; decide), fun z => absurd rfl z, fun s hs => ?_, fun s _ => nodup_handW _ _ _⟩
  rw [if_neg (by show ¬ _ < 0; omega)]
  show (handW w [] s).length = m
  rw [handW_len]; exact h s hs

/-- the places so far, as a game -/
theorem wfW {m : Nat} {w : List Nat} {lead : Nat} (h : OkW m w) : ∀ (n : Nat) {ps : List Nat}, ps.length = n → PlOk w lead ps → ps.length < 4 → WF m (gameW w lead ps)
  | 0, ps, hn, hp, _ => by
    have : ps = [] := List.length_eq_zero_iff.mp hn
    subst this; exact wf0 h hp.ld
  | n + 1, ps, hn, hp, hl => by
    have hne : ps ≠ [] := by intro z; rw [z] at hn; cases hn
    have e := List.dropLast_concat_getLast hne
    generalize ps.dropLast = qs at e
    generalize ps.getLast hne = p at e
    subst e
    rw [List.length_append, List.length_singleton] at hn hl
    have W := wfW h n (by omega) hp.init (by omega)
    have hw := hp.last
    have hm : p ∈ (gameW w lead qs).hands (gameW w lead qs).turn := mem_handW.mpr ⟨hw, hp.init.fresh (by omega) hw⟩
    have W' := W.play (sg := sAt w) (t := tS w) hm
    rw [playW (by omega) hw, if_neg (by show ¬ qs.length + 1 = 4; omega)] at W'
    exact W'

theorem at_place {w ps : List Nat} {lead s c : Nat} (hp : PlOk w lead ps) (h : At (gameW w lead ps) s c) : w[c]? = some s := by
  obtain ⟨_, h | ⟨i, hi, e⟩⟩ := h
  · exact (mem_handW.mp h).1
  · rw [← e]; exact hp.at_ i c hi

/-! ### suits by places -/
theorem sAt_mono {w : List Nat} {p q : Nat} (h : p ≤ q) : sAt w p ≤ sAt w q := by
  unfold sAt
  exact (List.take_sublist_take_left h).count_le 4
theorem sAt_le (w : List Nat) (p : Nat) : sAt w p ≤ tS w := by
  unfold sAt tS
  exact (List.take_sublist _ _).count_le 4
theorem sAt_lt {w : List Nat} {p q : Nat} (h : sAt w p < sAt w q) : p < q := by
  by_cases e : p < q
  · exact e
  · have := sAt_mono (w := w) (p := q) (q := p) (by omega)
    omega
theorem sAt_succ {w : List Nat} {p x : Nat} (h : w[p]? = some x) (hx : x ≠ 4) : sAt w (p + 1) = sAt w p := by
  unfold sAt
  rw [take_succ h, List.count_append, List.count_singleton, if_neg (by rw [beq_iff_eq]; exact hx)]; rfl
theorem sAt_run {w : List Nat} {p s : Nat} (hs : s ≠ 4) : ∀ (d : Nat), (∀ q, p ≤ q → q ≤ p + d → w[q]? = some s) → sAt w (p + d) = sAt w p
  | 0, _ => rfl
  | d + 1, h => by
    rw [← Nat.add_assoc, sAt_succ (h (p + d) (by omega) (by omega)) hs]
    exact sAt_run hs d fun q h1 h2 => h q h1 (by omega)

/-! ### cards side by side -/
def swp (a b x : Nat) : Nat := if x = a then b else if x = b then a else x
theorem swp_l (a b : Nat) : swp a b a = b := by unfold swp; rw [if_pos rfl]
theorem swp_r (a b : Nat) : swp a b b = a := by
  unfold swp
  by_cases e : b = a
  · rw [if_pos e]; exact e
  · rw [if_neg e, if_pos rfl]
theorem swp_n {a b x : Nat} (h1 : x ≠ a) (h2 : x ≠ b) : swp a b x = x := by unfold swp; rw [if_neg h1, if_neg h2]
theorem swp_swp (a b x : Nat) : swp a b (swp a b x) = x := by
  by_cases h1 : x = a
  · subst h1; rw [swp_l, swp_r]
  · by_cases h2 : x = b
    · subst h2; rw [swp_r, swp_l]
    · rw [swp_n h1 h2, swp_n h1 h2]

theorem swap_sim {w ps : List Nat} {lead a b : Nat} (hp : PlOk w lead ps) (hl : ps.length < 4) (hab : a ≤ b) (run : ∀ q, a ≤ q → q ≤ b → w[q]? = some ((lead + ps.length) % 4)) :
    Sim (sAt w) (tS w) (sAt w) (tS w) (swp a b) (gameW w lead ps) (gameW w lead ps) := by
  have hs4 : (lead + ps.length) % 4 ≠ 4 := by omega
  have ha := run a (Nat.le_refl _) hab
  have hb := run b hab (Nat.le_refl _)
  have hsuit : sAt w b = sAt w a := by
    have := sAt_run (w := w) (p := a) hs4 (b - a) (fun q h1 h2 => run q h1 (by omega))
    rwa [show a + (b - a) = b by omega] at this
  have hsw : ∀ x, sAt w (swp a b x) = sAt w x := fun x => by
    by_cases h1 : x = a
    · subst h1; rw [swp_l]; exact hsuit
    · by_cases h2 : x = b
      · subst h2; rw [swp_r]; exact hsuit.symm
      · rw [swp_n h1 h2]
  have hww : ∀ x, w[swp a b x]? = w[x]? := fun x => by
    by_cases h1 : x = a
    · subst h1; rw [swp_l, ha, hb]
    · by_cases h2 : x = b
      · subst h2; rw [swp_r, ha, hb]
      · rw [swp_n h1 h2]
  have fa := hp.fresh hl ha
  have fb := hp.fresh hl hb
  have hnot : ∀ x, x ∈ ps → swp a b x = x := fun x hx => swp_n (fun z => fa (z ▸ hx)) (fun z => fb (z ▸ hx))
  have hpl : ∀ x, (swp a b x ∈ ps ↔ x ∈ ps) := fun x => by
    by_cases h1 : x = a
    · subst h1; rw [swp_l]; exact ⟨fun z => absurd z fb, fun z => absurd z fa⟩
    · by_cases h2 : x = b
      · subst h2; rw [swp_r]; exact ⟨fun z => absurd z fa, fun z => absurd z fb⟩
      · rw [swp_n h1 h2]
  refine ⟨rfl, ?_, hl, fun s hs x => ?_, fun s s' c d _ _ e => ?_, fun s s' c d _ _ => by rw [hsw, hsw], fun s c _ => by rw [hsw], fun s s' c d hne hc hd _ => ?_⟩
  · show ps = ps.map (swp a b)
    have : ps.map (swp a b) = ps.map id := List.map_congr_left fun x hx => hnot x hx
    rw [this, List.map_id]
  · show x ∈ handW w ps s ↔ ∃ c ∈ handW w ps s, swp a b c = x
    constructor
    · intro h
      refine ⟨swp a b x, ?_, swp_swp a b x⟩
      rw [mem_handW] at h ⊢
      rw [hww, hpl]; exact h
    · rintro ⟨c, hc, rfl⟩
      rw [mem_handW] at hc ⊢
      rw [hww, hpl]; exact hc
  · have := congrArg (swp a b) e
    rwa [swp_swp, swp_swp] at this
  · have wc := at_place hp hc
    have wd := at_place hp hd
    -- a place of another seat does not lie between a and b
    have out : ∀ x y u v : Nat, u ≠ v → w[x]? = some u → w[y]? = some v → x = a ∨ x = b → y < a ∨ b < y := fun x y u v huv hx hy hxx => by
      by_cases q : a ≤ y ∧ y ≤ b
      · have := run y q.1 q.2
        rw [hy] at this
        have e1 := Option.some.inj this
        rcases hxx with rfl | rfl
        · rw [ha] at hx; exact absurd ((Option.some.inj hx).symm.trans e1.symm) huv
        · rw [hb] at hx; exact absurd ((Option.some.inj hx).symm.trans e1.symm) huv
      · omega
    by_cases c1 : c = a ∨ c = b
    · have o := out c d s s' hne wc wd c1
      have dn : swp a b d = d := swp_n (by omega) (by omega)
      rw [dn]
      rcases c1 with rfl | rfl
      · rw [swp_l]; omega
      · rw [swp_r]; omega
    · have cn : swp a b c = c := swp_n (fun z => c1 (.inl z)) (fun z => c1 (.inr z))
      rw [cn]
      by_cases d1 : d = a ∨ d = b
      · have o := out d c s' s (fun z => hne z.symm) wd wc d1
        rcases d1 with rfl | rfl
        · rw [swp_l]; omega
        · rw [swp_r]; omega
      · rw [swp_n (fun z => d1 (.inl z)) (fun z => d1 (.inr z))]

/-! ### the places worth playing -/
def worth (w : List Nat) (s : Nat) : List Nat := (((List.range w.length).filter (fun p => w[p]? == some s)).reverse).filter (fun p => p == 0 || w[p - 1]? != some s)
def allowedW (w : List Nat) (s : Nat) (ps : List Nat) : List Nat := match ps with
  | [] => worth w s
  | p0 :: _ => if 0 < ((worth w s).filter (fun p => sAt w p == sAt w p0)).length then (worth w s).filter (fun p => sAt w p == sAt w p0) else worth w s

theorem mem_worth {w : List Nat} {s p : Nat} : p ∈ worth w s ↔ w[p]? = some s ∧ (p = 0 ∨ w[p - 1]? ≠ some s) := by
  unfold worth
  rw [List.mem_filter, List.mem_reverse, List.mem_filter, List.mem_range, beq_iff_eq, Bool.or_eq_true, beq_iff_eq, bne_iff_ne]
  exact ⟨fun h => ⟨h.1.2, h.2⟩, fun h => ⟨⟨(List.getElem?_eq_some_iff.mp h.1).1, h.1⟩, h.2⟩⟩

theorem run_of {w : List Nat} {s : Nat} : ∀ (p : Nat), w[p]? = some s → ∃ a, a ≤ p ∧ a ∈ worth w s ∧ ∀ q, a ≤ q → q ≤ p → w[q]? = some s
  | 0, h => ⟨0, Nat.le_refl _, mem_worth.mpr ⟨h, .inl rfl⟩, fun q _ h2 => by rw [Nat.le_zero.mp h2]; exact h⟩
  | p + 1, h => by
    by_cases e : w[p]? = some s
    · obtain ⟨a, h1, h2, h3⟩ := run_of p e
      refine ⟨a, by omega, h2, fun q h4 h5 => ?_⟩
      by_cases z : q ≤ p
      · exact h3 q h4 z
      · rw [show q = p + 1 by omega]; exact h
    · refine ⟨p + 1, Nat.le_refl _, mem_worth.mpr ⟨h, .inr ?_⟩, fun q h4 h5 => ?_⟩
      · rw [Nat.add_sub_cancel]; exact e
      · rw [show q = p + 1 by omega]; exact h

theorem mem_allowed {w ps : List Nat} {lead : Nat} (hp : PlOk w lead ps) (hl : ps.length < 4) {p : Nat} :
    p ∈ allowedW w ((lead + ps.length) % 4) ps ↔ p ∈ worth w ((lead + ps.length) % 4) ∧ May (sAt w) (gameW w lead ps) p := by
  have hand : ∀ q, q ∈ worth w ((lead + ps.length) % 4) → q ∈ (gameW w lead ps).hands (gameW w lead ps).turn := fun q hq =>
    mem_handW.mpr ⟨(mem_worth.mp hq).1, hp.fresh hl (mem_worth.mp hq).1⟩
  have hs4 : (lead + ps.length) % 4 ≠ 4 := by omega
  cases ps with
  | nil => exact ⟨fun h => ⟨h, hand p h, fun l z => by cases z⟩, fun h => h.1⟩
  | cons p0 r =>
    unfold allowedW
    show p ∈ (if 0 < ((worth w ((lead + (p0 :: r).length) % 4)).filter (fun p => sAt w p == sAt w p0)).length then (worth w ((lead + (p0 :: r).length) % 4)).filter (fun p => sAt w p == sAt w p0) else worth w ((lead + (p0 :: r).length) % 4)) ↔ _
    by_cases e : 0 < ((worth w ((lead + (p0 :: r).length) % 4)).filter (fun p => sAt w p == sAt w p0)).length
    · rw [if_pos e, List.mem_filter, beq_iff_eq]
      obtain ⟨x, hx⟩ := List.exists_mem_of_length_pos e
      rw [List.mem_filter, beq_iff_eq] at hx
      constructor
      · rintro ⟨h1, h2⟩
        refine ⟨h1, hand p h1, fun l z => ?_⟩
        have : p0 = l := Option.some.inj z
        subst this; exact .inl h2
      · rintro ⟨h1, _, h3⟩
        rcases h3 p0 rfl with z | z
        · exact ⟨h1, z⟩
        · exact absurd hx.2 (z x (hand x hx.1))
    · rw [if_neg e]
      constructor
      · intro h
        refine ⟨h, hand p h, fun l z => .inr fun x hx q => e ?_⟩
        have : p0 = l := Option.some.inj z
        subst this
        have wx := (mem_handW.mp hx).1
        rw [turnW] at wx
        obtain ⟨a, h1, h2, h3⟩ := run_of x wx
        refine List.length_pos_of_mem (a := a) (List.mem_filter.mpr ⟨h2, ?_⟩)
        rw [beq_iff_eq, ← q]
        have := sAt_run (w := w) (p := a) hs4 (x - a) (fun y g1 g2 => h3 y g1 (by omega))
        rw [show a + (x - a) = x by omega] at this
        exact this.symm
      · exact fun h => h.1

/-- the cards side by side of one seat are worth the same: the lowest stands for them -/
theorem stands {w ps : List Nat} {lead : Nat} (hp : PlOk w lead ps) (hl : ps.length < 4) (n : Nat) (need : Int) {p : Nat} (hm : May (sAt w) (gameW w lead ps) p) :
    ∃ a, a ∈ allowedW w ((lead + ps.length) % 4) ps ∧ (Win (sAt w) (tS w) n ((gameW w lead ps).play (sAt w) (tS w) p) (need - gain (sAt w) (tS w) (gameW w lead ps) p) ↔
      Win (sAt w) (tS w) n ((gameW w lead ps).play (sAt w) (tS w) a) (need - gain (sAt w) (tS w) (gameW w lead ps) a)) := by
  have wp := (mem_handW.mp hm.1).1
  rw [turnW] at wp
  obtain ⟨a, h1, h2, h3⟩ := run_of p wp
  have S := swap_sim hp hl h1 h3
  have ma := S.mayR hm
  have e : swp a p p = a := swp_r a p
  have hw := Sim.win n (need - gain (sAt w) (tS w) (gameW w lead ps) p) (S.play hm.1)
  rw [← S.gain hm.1] at hw ⊢
  rw [e] at ma hw ⊢
  exact ⟨a, (mem_allowed hp hl).mpr ⟨h2, ma⟩, hw⟩

theorem win_step {w ps : List Nat} {lead : Nat} (hp : PlOk w lead ps) (hl : ps.length < 4) (n : Nat) (need : Int) :
    Win (sAt w) (tS w) (n + 1) (gameW w lead ps) need ↔
      if (lead + ps.length) % 4 % 2 = 0 then ∃ p ∈ allowedW w ((lead + ps.length) % 4) ps, Win (sAt w) (tS w) n ((gameW w lead ps).play (sAt w) (tS w) p) (need - gain (sAt w) (tS w) (gameW w lead ps) p)
      else ∀ p ∈ allowedW w ((lead + ps.length) % 4) ps, Win (sAt w) (tS w) n ((gameW w lead ps).play (sAt w) (tS w) p) (need - gain (sAt w) (tS w) (gameW w lead ps) p) := by
  show (if (lead + ps.length) % 4 % 2 = 0 then _ else _) ↔ _
  by_cases e : (lead + ps.length) % 4 % 2 = 0
  · rw [if_pos e, if_pos e]
    constructor
    · rintro ⟨p, hm, hw⟩
      obtain ⟨a, ha, he⟩ := stands hp hl n need hm
      exact ⟨a, ha, he.mp hw⟩
    · rintro ⟨p, hq, hw⟩
      exact ⟨p, ((mem_allowed hp hl).mp hq).2, hw⟩
  · rw [if_neg e, if_neg e]
    constructor
    · intro h p hq
      exact h p ((mem_allowed hp hl).mp hq).2
    · intro h p hm
      obtain ⟨a, ha, he⟩ := stands hp hl n need hm
      exact he.mpr (h a ha)
end LT

end
section
set_option autoImplicit false
set_option linter.all false
/-! The end of a trick: who takes it, and the order without its places. -/
namespace LT

/-- what is kept of the first n places -/
def keep (w P : List Nat) (q : Nat) : Option Nat := if q ∈ P then none else w[q]?
def upTo (w P : List Nat) (n : Nat) : List Nat := (List.range n).filterMap (keep w P)
def without (w P : List Nat) : List Nat := upTo w P w.length
def rank (w P : List Nat) (q : Nat) : Nat := (upTo w P q).length

theorem upTo_succ (w P : List Nat) (n : Nat) : upTo w P (n + 1) = upTo w P n ++ (keep w P n).toList := by
  unfold upTo
  rw [List.range_succ, List.filterMap_append]
  cases h : keep w P n <;> simp [h]
theorem upTo_in {w P : List Nat} {n : Nat} (h : n ∈ P) : upTo w P (n + 1) = upTo w P n := by
  rw [upTo_succ]; unfold keep; rw [if_pos h]; simp
theorem upTo_out {w P : List Nat} {n x : Nat} (h : n ∉ P) (hx : w[n]? = some x) : upTo w P (n + 1) = upTo w P n ++ [x] := by
  rw [upTo_succ]; unfold keep; rw [if_neg h, hx]; rfl
theorem upTo_prefix (w P : List Nat) {a : Nat} : ∀ (d : Nat), ∃ r, upTo w P (a + d) = upTo w P a ++ r
  | 0 => ⟨[], by simp⟩
  | d + 1 => by
    obtain ⟨r, h⟩ := upTo_prefix w P (a := a) d
    exact ⟨r ++ (keep w P (a + d)).toList, by rw [← Nat.add_assoc, upTo_succ, h, List.append_assoc]⟩
theorem upTo_prefix' (w P : List Nat) {a b : Nat} (h : a ≤ b) : ∃ r, upTo w P b = upTo w P a ++ r := by
  have := upTo_prefix w P (a := a) (b - a)
  rwa [show a + (b - a) = b by omega] at this
theorem rank_mono (w P : List Nat) {a b : Nat} (h : a ≤ b) : rank w P a ≤ rank w P b := by
  obtain ⟨r, e⟩ := upTo_prefix' w P h
  unfold rank
  rw [e, List.length_append]; omega
theorem rank_lt {w P : List Nat} {a b x : Nat} (h : a < b) (ha : a ∉ P) (hx : w[a]? = some x) : rank w P a < rank w P b := by
  have := rank_mono w P (show a + 1 ≤ b from h)
  have e : rank w P (a + 1) = rank w P a + 1 := by unfold rank; rw [upTo_out ha hx, List.length_append]; rfl
  omega
theorem without_at {w P : List Nat} {q x : Nat} (hq : q ∉ P) (hx : w[q]? = some x) : (without w P)[rank w P q]? = some x := by
  have hlt : q < w.length := (List.getElem?_eq_some_iff.mp hx).1
  obtain ⟨r, e⟩ := upTo_prefix' w P (show q + 1 ≤ w.length from hlt)
  unfold without
  rw [e, upTo_out hq hx, List.append_assoc, List.getElem?_append_right (by unfold rank; omega)]
  unfold rank
  rw [Nat.sub_self]; rfl
theorem without_take {w P : List Nat} {q : Nat} (h : q ≤ w.length) : (without w P).take (rank w P q) = upTo w P q := by
  obtain ⟨r, e⟩ := upTo_prefix' w P h
  unfold without rank
  rw [e, List.take_left]
theorem without_onto (w P : List Nat) : ∀ (n x : Nat), n ≤ w.length → x < rank w P n → ∃ q, q < n ∧ q ∉ P ∧ rank w P q = x
  | 0, x, _, h => by unfold rank upTo at h; simp at h
  | n + 1, x, hn, h => by
    by_cases e : n ∈ P
    · unfold rank at h
      rw [upTo_in e] at h
      obtain ⟨q, h1, h2, h3⟩ := without_onto w P n x (by omega) h
      exact ⟨q, by omega, h2, h3⟩
    · have hx : w[n]? = some w[n] := List.getElem?_eq_getElem (by omega)
      unfold rank at h
      rw [upTo_out e hx, List.length_append, List.length_singleton] at h
      by_cases z : x < rank w P n
      · obtain ⟨q, h1, h2, h3⟩ := without_onto w P n x (by omega) z
        exact ⟨q, by omega, h2, h3⟩
      · refine ⟨n, by omega, e, ?_⟩
        unfold rank at z ⊢
        omega

/-- counting a sign that no place of P has -/
theorem count_upTo {w P : List Nat} {y : Nat} (hP : ∀ p ∈ P, w[p]? ≠ some y) : ∀ (n : Nat), n ≤ w.length → (upTo w P n).count y = (w.take n).count y
  | 0, _ => by unfold upTo; simp
  | n + 1, hn => by
    have hx : w[n]? = some w[n] := List.getElem?_eq_getElem (by omega)
    have ih := count_upTo hP n (by omega)
    rw [take_succ hx, List.count_append]
    by_cases e : n ∈ P
    · rw [upTo_in e, ih, List.count_singleton, if_neg]; rfl
      rw [beq_iff_eq]
      exact fun z => hP n e (by rw [hx, z])
    · rw [upTo_out e hx, List.count_append, ih]

section
variable {w P : List Nat} {lead : Nat}

theorem PlOk.nofence (hp : PlOk w lead P) : ∀ p ∈ P, w[p]? ≠ some 4 := fun p hp' z => by
  obtain ⟨i, hi, e⟩ := List.getElem_of_mem hp'
  have := hp.at_ i p (by rw [List.getElem?_eq_getElem hi, e])
  rw [z] at this
  have := Option.some.inj this
  omega

theorem sAt_without (hp : PlOk w lead P) {q : Nat} (hq : q ≤ w.length) : sAt (without w P) (rank w P q) = sAt w q := by
  unfold sAt
  rw [without_take hq, count_upTo hp.nofence q hq]
theorem tS_without (hp : PlOk w lead P) : tS (without w P) = tS w := by
  unfold tS without
  rw [count_upTo hp.nofence w.length (Nat.le_refl _), List.take_length]

theorem PlOk.inj (hp : PlOk w lead P) {i j p : Nat} (h1 : P[i]? = some p) (h2 : P[j]? = some p) : i = j := by
  have a := hp.at_ i p h1
  have b := hp.at_ j p h2
  have l1 := (List.getElem?_eq_some_iff.mp h1).1
  have l2 := (List.getElem?_eq_some_iff.mp h2).1
  have := hp.len
  rw [a] at b
  have := Option.some.inj b
  omega

/-- the seat that takes the trick -/
def takerW (w : List Nat) (lead : Nat) (P : List Nat) : Nat := (lead + takerG (sAt w) (tS w) P) % 4

/-- the highest place that counts takes it -/
theorem takerW_eq (hp : PlOk w lead P) {p0 pm : Nat} (h0 : P[0]? = some p0) (hm : pm ∈ P) (hc : sAt w pm = sAt w p0 ∨ sAt w pm = tS w)
    (hmax : ∀ q ∈ P, (sAt w q = sAt w p0 ∨ sAt w q = tS w) → q ≤ pm) : w[pm]? = some (takerW w lead P) := by
  obtain ⟨k, hk, ek⟩ := List.getElem_of_mem hm
  have hkq : P[k]? = some pm := by rw [List.getElem?_eq_getElem hk, ek]
  have hd : P.headD 0 = p0 := by
    cases P with
    | nil => cases h0
    | cons a r => exact Option.some.inj h0
  have gd : ∀ j, j < P.length → P[j]? = some (P.getD j 0) := fun j hj => by
    rw [List.getD_eq_getElem?_getD, List.getElem?_eq_getElem hj]; rfl
  have gk : P.getD k 0 = pm := Option.some.inj ((gd k hk).symm.trans hkq)
  have et : takerG (sAt w) (tS w) P = k := by
    refine takerG_eq hk (fun j hj hjk => ?_) (fun j hj => ?_)
    · rw [hd, gk]
      have hj' := gd j hj
      generalize P.getD j 0 = b at hj'
      have hbm : b ∈ P := List.mem_of_getElem? hj'
      have hne : b ≠ pm := fun z => hjk (hp.inj hj' (z ▸ hkq))
      unfold beatsG
      by_cases cb : sAt w b = sAt w p0 ∨ sAt w b = tS w
      · have hlt : b < pm := by have := hmax b hbm cb; omega
        by_cases e : sAt w pm = sAt w b
        · rw [if_pos e]; exact decide_eq_true hlt
        · rw [if_neg e]
          by_cases e2 : sAt w pm = tS w
          · rw [beq_iff_eq.mpr e2]; rfl
          · exfalso
            have h1 : sAt w pm = sAt w p0 := by rcases hc with z | z; exact z; exact absurd z e2
            have h2 : sAt w b = tS w := by
              rcases cb with z | z
              · exact absurd (h1.trans z.symm) e
              · exact z
            have h3 := sAt_le w pm
            have := sAt_lt (w := w) (p := pm) (q := b) (by omega)
            omega
      · have e : sAt w pm ≠ sAt w b := fun z => cb (by rw [← z]; exact hc)
        rw [if_neg e]
        by_cases e2 : sAt w pm = tS w
        · rw [beq_iff_eq.mpr e2]; rfl
        · have h1 : sAt w pm = sAt w p0 := by rcases hc with z | z; exact z; exact absurd z e2
          have h2 : sAt w b ≠ tS w := fun z => cb (.inr z)
          rw [beq_iff_eq.mpr h1, bne_iff_ne.mpr h2, Bool.and_true, Bool.or_true]
    · rw [hd, gk]
      have hj' := gd j hj
      generalize P.getD j 0 = b at hj'
      have hbm : b ∈ P := List.mem_of_getElem? hj'
      unfold beatsG
      by_cases e : sAt w b = sAt w pm
      · rw [if_pos e]
        have := hmax b hbm (by rw [e]; exact hc)
        exact decide_eq_false (by omega)
      · rw [if_neg e]
        have h1 : (sAt w b == tS w) = false := by
          rw [beq_eq_false_iff_ne]
          intro z
          have h2 := hmax b hbm (.inr z)
          have h3 := sAt_le w pm
          have := sAt_lt (w := w) (p := pm) (q := b) (by omega)
          omega
        have h2 : (sAt w b == sAt w p0 && sAt w pm != tS w) = false := by
          rw [Bool.eq_false_iff]
          intro z
          rw [Bool.and_eq_true, beq_iff_eq, bne_iff_ne] at z
          rcases hc with q | q
          · exact e (z.1.trans q.symm)
          · exact z.2 q
        rw [h1, h2]; rfl
  unfold takerW
  rw [et]
  exact hp.at_ k pm hkq

theorem takerW_lt (w : List Nat) (lead : Nat) (P : List Nat) : takerW w lead P < 4 := Nat.mod_lt _ (by decide)

/-- behind a trick every seat has one card less -/
theorem OkW.without {m : Nat} (h : OkW m w) (hp : PlOk w lead P) (hl : P.length = 4) : OkW (m - 1) (LT.without w P) := fun s hs => by
  obtain ⟨p, hpP, hps⟩ : ∃ p ∈ P, w[p]? = some s := by
    have hi : (s + 4 - lead) % 4 < P.length := by rw [hl]; omega
    refine ⟨P[(s + 4 - lead) % 4], List.getElem_mem hi, ?_⟩
    rw [hp.at_ _ _ (List.getElem?_eq_getElem hi)]
    have := hp.ld
    congr 1
    omega
  have huniq : ∀ q ∈ P, w[q]? = some s → q = p := fun q hq hqs => by
    obtain ⟨i, hi, ei⟩ := List.getElem_of_mem hq
    obtain ⟨j, hj, ej⟩ := List.getElem_of_mem hpP
    have hi' : P[i]? = some q := by rw [List.getElem?_eq_getElem hi, ei]
    have hj' : P[j]? = some p := by rw [List.getElem?_eq_getElem hj, ej]
    have a := hp.at_ i q hi'
    have b := hp.at_ j p hj'
    rw [hqs] at a; rw [hps] at b
    have a := Option.some.inj a
    have b := Option.some.inj b
    have : i = j := by omega
    subst this
    exact Option.some.inj (hi'.symm.trans hj')
  have key : ∀ n, n ≤ w.length → (upTo w P n).count s + (if p < n then 1 else 0) = (w.take n).count s := by
    intro n
    induction n with
    | zero => intro _; unfold upTo; simp
    | succ n ih =>
      intro hn
      have ih := ih (by omega)
      have hx : w[n]? = some w[n] := List.getElem?_eq_getElem (by omega)
      rw [take_succ hx, List.count_append, ← ih, List.count_singleton]
      by_cases e : n ∈ P
      · rw [upTo_in e]
        by_cases z : w[n] = s
        · have : n = p := huniq n e (by rw [hx, z])
          subst this
          rw [if_pos (show n < n + 1 by omega), if_neg (show ¬ n < n by omega), if_pos (show (w[n] == s) = true by rw [beq_iff_eq]; exact z)]
        · have : n ≠ p := fun q => z (by subst q; rw [hx] at hps; exact Option.some.inj hps)
          rw [if_neg (show ¬ (w[n] == s) = true by rw [beq_iff_eq]; exact z)]
          by_cases y : p < n
          · rw [if_pos (show p < n + 1 by omega), if_pos y]
          · rw [if_neg (show ¬ p < n + 1 by omega), if_neg y]
      · have : n ≠ p := fun q => e (q ▸ hpP)
        rw [upTo_out e hx, List.count_append, List.count_singleton]
        by_cases y : p < n
        · rw [if_pos (show p < n + 1 by omega), if_pos y]; omega
        · rw [if_neg (show ¬ p < n + 1 by omega), if_neg y]; omega
  have k := key w.length (Nat.le_refl _)
  rw [List.take_length, h s hs, if_pos (List.getElem?_eq_some_iff.mp hps).1] at k
  unfold LT.without
  omega
end

/-- the game behind a whole trick is that of the order without it -/
theorem end_sim {w ps : List Nat} {lead p : Nat} (hp : PlOk w lead (ps ++ [p])) (hl : ps.length = 3) :
    Sim (sAt w) (tS w) (sAt (without w (ps ++ [p]))) (tS (without w (ps ++ [p]))) (rank w (ps ++ [p])) ((gameW w lead ps).play (sAt w) (tS w) p) (gameW (without w (ps ++ [p])) (takerW w lead (ps ++ [p])) []) := by
  have e : (gameW w lead ps).play (sAt w) (tS w) p = ⟨handW w (ps ++ [p]), takerW w lead (ps ++ [p]), []⟩ := by
    unfold G.play
    rw [if_pos (show (gameW w lead ps).trick.length + 1 = 4 by show ps.length + 1 = 4; omega)]
    refine G.ext' (handW_snoc hp.last).symm rfl rfl
  rw [e]
  generalize hP : ps ++ [p] = P at *
  have at_ : ∀ {s c : Nat}, At (⟨handW w P, takerW w lead P, []⟩ : G) s c → w[c]? = some s ∧ c ∉ P := fun {s c} h => by
    obtain ⟨_, h | ⟨i, hi, _⟩⟩ := h
    · exact mem_handW.mp h
    · simp at hi
  have le_ : ∀ {s c : Nat}, w[c]? = some s → c ≤ w.length := fun h => Nat.le_of_lt (List.getElem?_eq_some_iff.mp h).1
  refine ⟨rfl, rfl, (by show (0 : Nat) < 4; decide), fun s hs x => ?_, fun s s' c d hc hd h => ?_, fun s s' c d hc hd => ?_, fun s c hc => ?_, fun s s' c d _ hc hd _ => ?_⟩
  · show x ∈ handW (without w P) [] s ↔ ∃ c ∈ handW w P s, rank w P c = x
    rw [mem_handW]
    constructor
    · rintro ⟨h1, _⟩
      obtain ⟨q, h2, h3, h4⟩ := without_onto w P w.length x (Nat.le_refl _) (List.getElem?_eq_some_iff.mp h1).1
      subst h4
      have hx : w[q]? = some w[q] := List.getElem?_eq_getElem h2
      refine ⟨q, mem_handW.mpr ⟨?_, h3⟩, rfl⟩
      rw [without_at h3 hx] at h1
      rw [hx]; exact h1
    · rintro ⟨c, hc, rfl⟩
      rw [mem_handW] at hc
      exact ⟨without_at hc.2 hc.1, by simp⟩
  · have hc := at_ hc
    have hd := at_ hd
    by_cases z : c < d
    · have := rank_lt z hc.2 hc.1; omega
    · by_cases y : d < c
      · have := rank_lt y hd.2 hd.1; omega
      · omega
  · have hc := at_ hc
    have hd := at_ hd
    rw [sAt_without hp (le_ hc.1), sAt_without hp (le_ hd.1)]
  · have hc := at_ hc
    rw [sAt_without hp (le_ hc.1), tS_without hp]
  · have hc := at_ hc
    have hd := at_ hd
    constructor
    · intro z; exact rank_lt z hc.2 hc.1
    · intro z
      by_cases y : c < d
      · exact y
      · have := rank_mono w P (show d ≤ c by omega); omega

/-- how the trick's places go on: reached or not -/
def WinP (m : Nat) (w : List Nat) (lead : Nat) (ps : List Nat) (need : Int) : Prop :=
  if ps.length < 4 then Win (sAt w) (tS w) (4 * m - ps.length) (gameW w lead ps) need
  else Win (sAt (without w ps)) (tS (without w ps)) (4 * (m - 1)) (gameW (without w ps) (takerW w lead ps) []) (need - if takerW w lead ps % 2 = 0 then 1 else 0)

theorem play_winP {m : Nat} {w ps : List Nat} {lead p : Nat} (hm : 1 ≤ m) (hp : PlOk w lead ps) (hl : ps.length < 4) (hpl : w[p]? = some ((lead + ps.length) % 4)) (need : Int) :
    Win (sAt w) (tS w) (4 * m - (ps.length + 1)) ((gameW w lead ps).play (sAt w) (tS w) p) (need - gain (sAt w) (tS w) (gameW w lead ps) p) ↔ WinP m w lead (ps ++ [p]) need := by
  unfold WinP
  rw [List.length_append, List.length_singleton]
  have hp' := hp.snoc hl hpl
  by_cases e : ps.length + 1 < 4
  · rw [if_pos e, playW e hpl, gain_mid (by show ¬ ps.length + 1 = 4; omega), Int.sub_zero]
  · have e3 : ps.length = 3 := by omega
    rw [if_neg e]
    have hg : gain (sAt w) (tS w) (gameW w lead ps) p = if takerW w lead (ps ++ [p]) % 2 = 0 then 1 else 0 := by
      have ew : winner (sAt w) (tS w) (gameW w lead ps) p = takerW w lead (ps ++ [p]) := rfl
      by_cases q : takerW w lead (ps ++ [p]) % 2 = 0
      · rw [if_pos q, gain_pos (show ps.length + 1 = 4 by omega) (by rw [ew]; exact q)]
      · rw [if_neg q, gain_odd (by rw [ew]; exact q)]
    rw [hg, show 4 * m - (ps.length + 1) = 4 * (m - 1) by omega]
    exact Sim.win _ _ (end_sim hp' e3)

/-- ONE CARD of the search -/
theorem winP_step {m : Nat} {w ps : List Nat} {lead : Nat} (hm : 1 ≤ m) (hp : PlOk w lead ps) (hl : ps.length < 4) (need : Int) :
    WinP m w lead ps need ↔
      if (lead + ps.length) % 4 % 2 = 0 then ∃ p ∈ allowedW w ((lead + ps.length) % 4) ps, WinP m w lead (ps ++ [p]) need
      else ∀ p ∈ allowedW w ((lead + ps.length) % 4) ps, WinP m w lead (ps ++ [p]) need := by
  have h := win_step hp hl (4 * m - (ps.length + 1)) need
  rw [show 4 * m - (ps.length + 1) + 1 = 4 * m - ps.length by omega] at h
  have e0 : WinP m w lead ps need ↔ Win (sAt w) (tS w) (4 * m - ps.length) (gameW w lead ps) need := by unfold WinP; rw [if_pos hl]
  rw [e0, h]
  have key : ∀ p ∈ allowedW w ((lead + ps.length) % 4) ps, (Win (sAt w) (tS w) (4 * m - (ps.length + 1)) ((gameW w lead ps).play (sAt w) (tS w) p) (need - gain (sAt w) (tS w) (gameW w lead ps) p) ↔ WinP m w lead (ps ++ [p]) need) := fun p hq =>
    play_winP hm hp hl (mem_worth.mp ((mem_allowed hp hl).mp hq).1).1 need
  by_cases e : (lead + ps.length) % 4 % 2 = 0
  · rw [if_pos e, if_pos e]
    exact ⟨fun ⟨p, h1, h2⟩ => ⟨p, h1, (key p h1).mp h2⟩, fun ⟨p, h1, h2⟩ => ⟨p, h1, (key p h1).mpr h2⟩⟩
  · rw [if_neg e, if_neg e]
    exact ⟨fun h p h1 => (key p h1).mp (h p h1), fun h p h1 => (key p h1).mpr (h p h1)⟩

theorem allowed_at {w ps : List Nat} {lead p : Nat} (hp : PlOk w lead ps) (hl : ps.length < 4) (h : p ∈ allowedW w ((lead + ps.length) % 4) ps) : w[p]? = some ((lead + ps.length) % 4) :=
  (mem_worth.mp ((mem_allowed hp hl).mp h).1).1

/-- at the start of a trick -/
theorem winP_le {m : Nat} {w : List Nat} {lead : Nat} {need : Int} (h : OkW m w) (hl : lead < 4) (hw : WinP m w lead [] need) : need ≤ m :=
  win_le _ (wf0 h hl) (by show 4 * m - 0 + 0 = _; omega) hw
theorem winP_zero {m : Nat} {w : List Nat} {lead : Nat} {need : Int} (h : OkW m w) (hl : lead < 4) (hn : need ≤ 0) : WinP m w lead [] need :=
  win_zero _ (wf0 h hl) (by show 4 * m - 0 + 0 = _; omega) hn
end LT

end
section
set_option autoImplicit false
set_option linter.all false
/-! The table: who has which cards, those of the trick among them. -/
namespace LT
open Sy12 (Game suit height side value)

theorem nd_inj {l : List Nat} (hn : l.Nodup) {i j : Nat} (hi : i < l.length) (hj : j < l.length) (e : l[i] = l[j]) : i = j := by
  rw [List.nodup_iff_pairwise_ne, List.pairwise_iff_getElem] at hn
  by_cases h : i < j
  · exact absurd e (hn i j hi hj h)
  · by_cases h' : j < i
    · exact absurd e.symm (hn j i hj hi h')
    · omega

/-- no card lies at two places -/
structure GD (g : G) : Prop where
  dis : ∀ (s s' c : Nat), At g s c → At g s' c → s = s'
  out : ∀ (i c s : Nat), s < 4 → g.trick[i]? = some c → c ∉ g.hands s

theorem GD.play {sg : Nat → Nat} {t : Nat} {g : G} {c : Nat} (D : GD g) (hl : g.trick.length < 4) (hc : c ∈ g.hands g.turn) : GD (g.play sg t c) := by
  refine ⟨fun s s' d h1 h2 => D.dis s s' d (At.back hc h1) (At.back hc h2), fun i d s hs hi hd => ?_⟩
  unfold G.play at hi hd
  by_cases e : g.trick.length + 1 = 4
  · rw [if_pos e] at hi; simp at hi
  · rw [if_neg e] at hi hd
    have hi : (g.trick ++ [c])[i]? = some d := hi
    have hd : d ∈ handsP g c s := hd
    have hd' : d ∈ g.hands s ∧ (s = g.turn → d ≠ c) := by
      unfold handsP at hd
      by_cases q : s = g.turn
      · rw [if_pos q, List.mem_filter, bne_iff_ne] at hd; exact ⟨hd.1, fun _ => hd.2⟩
      · rw [if_neg q] at hd; exact ⟨hd, fun z => absurd z q⟩
    by_cases q : i < g.trick.length
    · rw [List.getElem?_append_left q] at hi
      exact D.out i d s hs hi hd'.1
    · have hi' : i < (g.trick ++ [c]).length := (List.getElem?_eq_some_iff.mp hi).1
      rw [List.length_append, List.length_singleton] at hi'
      have : i = g.trick.length := by omega
      subst this
      rw [List.getElem?_append_right (Nat.le_refl _), Nat.sub_self] at hi
      have : c = d := Option.some.inj hi
      subst this
      have := D.dis s g.turn c (At.hand hs hd'.1) (At.hand (turn_lt g) hc)
      exact hd'.2 this rfl

/-- the cards that lie on the table, by seats: THE TABLE'S INVARIANT -/
structure SeatsOk (m : Nat) (g : Game) (seats : List (Nat × Nat)) : Prop where
  ok : GOk m g
  dis : GD (toG g)
  trump : g.trump ≤ 4
  lt : ∀ c s, (c, s) ∈ seats → c < 52
  mem : ∀ c s, (c, s) ∈ seats ↔ At (toG g) s c
  nd : (seats.map (·.1)).Nodup
  m6 : m ≤ 6

section
variable {m : Nat} {g : Game} {seats : List (Nat × Nat)}

theorem SeatsOk.len4 (S : SeatsOk m g seats) : g.trick.length < 4 := S.ok.wf.len
theorem SeatsOk.seat_lt (S : SeatsOk m g seats) {c s : Nat} (h : (c, s) ∈ seats) : s < 4 := ((S.mem c s).mp h).1
theorem SeatsOk.trick_at (S : SeatsOk m g seats) {i c : Nat} (h : g.trick[i]? = some c) : (c, (g.first + i) % 4) ∈ seats := (S.mem _ _).mpr (At.trick (g := toG g) h)
theorem SeatsOk.uniq (S : SeatsOk m g seats) {c s s' : Nat} (h : (c, s) ∈ seats) (h' : (c, s') ∈ seats) : s = s' := S.dis.dis s s' c ((S.mem _ _).mp h) ((S.mem _ _).mp h')

/-- whose turn it is has not played: the cards it has on the table are its hand -/
theorem SeatsOk.hand (S : SeatsOk m g seats) {c : Nat} : (c, g.turn) ∈ seats ↔ c ∈ g.hand g.turn := by
  rw [S.mem]
  constructor
  · rintro ⟨_, h | ⟨i, hi, e⟩⟩
    · exact h
    · have hi' : i < g.trick.length := (List.getElem?_eq_some_iff.mp hi).1
      have := S.len4
      have e : (g.first + i) % 4 = (g.first + g.trick.length) % 4 := e
      omega
  · exact fun h => At.hand (turn_lt4 g) h

theorem mem_play {c d s : Nat} (h4 : g.hands.length = 4) : At (toG (g.play c).1) s d ↔ At ((toG g).play suit g.trump c) s d := by rw [play_toG g h4]

/-- a card is played, the trick is not over: the table's cards stay -/
theorem SeatsOk.play (S : SeatsOk m g seats) {c : Nat} (hc : c ∈ g.may) (hl : g.trick.length + 1 < 4) : SeatsOk m (g.play c).1 seats := by
  have hm := ((may_iff g c).mp hc).1
  have hm' : c ∈ (toG g).hands (toG g).turn := hm
  have ok' := S.ok.play hc
  rw [if_neg (by omega)] at ok'
  refine ⟨ok', ?_, by rw [play_trump]; exact S.trump, S.lt, fun d s => ?_, S.nd, S.m6⟩
  · rw [play_toG g S.ok.h4]; exact S.dis.play S.len4 hm'
  · rw [S.mem, mem_play S.ok.h4]
    constructor
    · rintro ⟨hs, h⟩
      unfold G.play
      rw [if_neg (show ¬ (toG g).trick.length + 1 = 4 by show ¬ g.trick.length + 1 = 4; omega)]
      refine ⟨hs, ?_⟩
      show d ∈ handsP (toG g) c s ∨ ∃ i, (g.trick ++ [c])[i]? = some d ∧ (g.first + i) % 4 = s
      rcases h with h | ⟨i, hi, e⟩
      · by_cases q : s = g.turn ∧ d = c
        · refine .inr ⟨g.trick.length, ?_, q.1.symm⟩
          rw [List.getElem?_append_right (Nat.le_refl _), Nat.sub_self, q.2]; rfl
        · refine .inl ?_
          unfold handsP
          by_cases z : s = (toG g).turn
          · rw [if_pos z, List.mem_filter, bne_iff_ne]
            exact ⟨h, fun y => q ⟨z, y⟩⟩
          · rw [if_neg z]; exact h
      · refine .inr ⟨i, ?_, e⟩
        have hi : g.trick[i]? = some d := hi
        rw [List.getElem?_append_left (List.getElem?_eq_some_iff.mp hi).1]; exact hi
    · exact fun h => At.back hm' h

/-- a card is played, the trick is over: its four cards go -/
theorem SeatsOk.endTrick (S : SeatsOk m g seats) {c : Nat} (hc : c ∈ g.may) (hl : g.trick.length = 3) {seats' : List (Nat × Nat)}
    (hs : ∀ p, p ∈ seats' ↔ p ∈ seats ∧ p.1 ∉ g.trick ++ [c]) (hn : (seats'.map (·.1)).Nodup) : SeatsOk (m - 1) (g.play c).1 seats' := by
  have hm := ((may_iff g c).mp hc).1
  have hm' : c ∈ (toG g).hands (toG g).turn := hm
  have ok' := S.ok.play hc
  rw [if_pos (by omega)] at ok'
  refine ⟨ok', ?_, by rw [play_trump]; exact S.trump, fun d s h => S.lt d s ((hs _).mp h).1, fun d s => ?_, hn, by have := S.m6; omega⟩
  · rw [play_toG g S.ok.h4]; exact S.dis.play S.len4 hm'
  · rw [hs, S.mem, mem_play S.ok.h4]
    unfold G.play
    rw [if_pos (show (toG g).trick.length + 1 = 4 by show g.trick.length + 1 = 4; omega)]
    constructor
    · rintro ⟨⟨h4, h⟩, hnot⟩
      have hnot : d ∉ g.trick ++ [c] := hnot
      rw [List.mem_append, List.mem_singleton] at hnot
      refine ⟨h4, .inl ?_⟩
      show d ∈ handsP (toG g) c s
      have hd : d ∈ (toG g).hands s := by
        rcases h with h | ⟨i, hi, _⟩
        · exact h
        · exact absurd (.inl (List.mem_of_getElem? hi)) hnot
      unfold handsP
      by_cases z : s = (toG g).turn
      · rw [if_pos z, List.mem_filter, bne_iff_ne]; exact ⟨hd, fun y => hnot (.inr y)⟩
      · rw [if_neg z]; exact hd
    · rintro ⟨h4, h | ⟨i, hi, _⟩⟩
      · have h : d ∈ handsP (toG g) c s := h
        have hd : d ∈ (toG g).hands s ∧ (s = g.turn → d ≠ c) := by
          unfold handsP at h
          by_cases q : s = (toG g).turn
          · rw [if_pos q, List.mem_filter, bne_iff_ne] at h; exact ⟨h.1, fun _ => h.2⟩
          · rw [if_neg q] at h; exact ⟨h, fun z => absurd z q⟩
        refine ⟨⟨h4, .inl hd.1⟩, ?_⟩
        show d ∉ g.trick ++ [c]
        rw [List.mem_append, List.mem_singleton]
        rintro (z | z)
        · obtain ⟨i, hi, e⟩ := List.getElem_of_mem z
          exact S.dis.out i d s h4 (by show g.trick[i]? = some d; rw [List.getElem?_eq_getElem hi, e]) hd.1
        · subst z
          have := S.dis.dis s g.turn d (At.hand h4 hd.1) (At.hand (turn_lt4 g) hm)
          exact hd.2 this rfl
      · simp at hi
end

/-! ### the card that takes a trick -/
/-- what the program reckons: the highest trump, else the highest of the first suit -/
def Takes (t : Nat) (P : List Nat) (x : Nat) : Prop :=
  x ∈ P ∧ ((suit x = t ∧ ∀ y ∈ P, suit y = t → y ≤ x) ∨ ((∀ y ∈ P, suit y ≠ t) ∧ suit x = suit (P.headD 0) ∧ ∀ y ∈ P, suit y = suit (P.headD 0) → y ≤ x))

theorem takes_eq {t : Nat} {P : List Nat} {x : Nat} (hn : P.Nodup) (h : Takes t P x) : P[takerG suit t P]? = some x := by
  obtain ⟨hx, h⟩ := h
  obtain ⟨k, hk, ek⟩ := List.getElem_of_mem hx
  have hkq : P[k]? = some x := by rw [List.getElem?_eq_getElem hk, ek]
  have gd : ∀ j, j < P.length → P[j]? = some (P.getD j 0) := fun j hj => by
    rw [List.getD_eq_getElem?_getD, List.getElem?_eq_getElem hj]; rfl
  have gk : P.getD k 0 = x := Option.some.inj ((gd k hk).symm.trans hkq)
  have inj : ∀ j, j < P.length → P.getD j 0 = x → j = k := fun j hj e => by
    have a := gd j hj
    rw [e] at a
    obtain ⟨h1, e1⟩ := List.getElem?_eq_some_iff.mp a
    exact nd_inj hn h1 hk (e1.trans ek.symm)
  have et : takerG suit t P = k := by
    refine takerG_eq hk (fun j hj hjk => ?_) (fun j hj => ?_)
    · rw [gk]
      have hb := gd j hj
      have hne : P.getD j 0 ≠ x := fun z => hjk (inj j hj z)
      generalize P.getD j 0 = b at hb hne
      have hbm : b ∈ P := List.mem_of_getElem? hb
      unfold beatsG
      by_cases e : suit x = suit b
      · rw [if_pos e]
        refine decide_eq_true ?_
        rcases h with ⟨h1, h2⟩ | ⟨h1, h2, h3⟩
        · have := h2 b hbm (e ▸ h1); omega
        · have := h3 b hbm (e ▸ h2); omega
      · rw [if_neg e]
        rcases h with ⟨h1, h2⟩ | ⟨h1, h2, h3⟩
        · rw [beq_iff_eq.mpr h1]; rfl
        · rw [beq_iff_eq.mpr h2, bne_iff_ne.mpr (h1 b hbm), Bool.and_true, Bool.or_true]
    · rw [gk]
      have hb := gd j hj
      generalize P.getD j 0 = b at hb
      have hbm : b ∈ P := List.mem_of_getElem? hb
      unfold beatsG
      by_cases e : suit b = suit x
      · rw [if_pos e]
        refine decide_eq_false ?_
        rcases h with ⟨h1, h2⟩ | ⟨h1, h2, h3⟩
        · have := h2 b hbm (e.trans h1); omega
        · have := h3 b hbm (e.trans h2); omega
      · rw [if_neg e]
        have h1 : (suit b == t) = false := by
          rw [beq_eq_false_iff_ne]
          rcases h with ⟨h1, h2⟩ | ⟨h1, h2, h3⟩
          · exact fun z => e (z.trans h1.symm)
          · exact h1 b hbm
        have h2 : (suit b == suit (P.headD 0) && suit x != t) = false := by
          rw [Bool.eq_false_iff]
          intro z
          rw [Bool.and_eq_true, beq_iff_eq, bne_iff_ne] at z
          rcases h with ⟨h1, h2⟩ | ⟨h1, h2, h3⟩
          · exact z.2 h1
          · exact e (z.1.trans h2.symm)
        rw [h1, h2]; rfl
  rw [et]; exact hkq

/-- the trick with its fourth card -/
theorem SeatsOk.four {m : Nat} {g : Game} {seats : List (Nat × Nat)} (S : SeatsOk m g seats) {c : Nat} (hc : c ∈ g.may) :
    (g.trick ++ [c]).Nodup ∧ ∀ i d, (g.trick ++ [c])[i]? = some d → (d, (g.first + i) % 4) ∈ seats := by
  have hm := ((may_iff g c).mp hc).1
  have hm' : c ∈ (toG g).hands (toG g).turn := hm
  have hat : ∀ i d, (g.trick ++ [c])[i]? = some d → (d, (g.first + i) % 4) ∈ seats := fun i d hi => by
    have hi' : i < (g.trick ++ [c]).length := (List.getElem?_eq_some_iff.mp hi).1
    have := at_more (g := toG g) hm' hi'
    rw [S.mem]
    have e : ((toG g).trick ++ [c]).getD i 0 = d := by
      rw [List.getD_eq_getElem?_getD]
      show ((g.trick ++ [c])[i]?).getD 0 = d
      rw [hi]; rfl
    rw [e] at this
    exact this
  refine ⟨?_, hat⟩
  rw [List.nodup_iff_pairwise_ne, List.pairwise_iff_getElem]
  intro i j hi hj hij e
  have a := hat i _ (List.getElem?_eq_getElem hi)
  have b := hat j _ (List.getElem?_eq_getElem hj)
  rw [e] at a
  have := S.uniq a b
  have l4 := S.len4
  rw [List.length_append, List.length_singleton] at hi hj
  omega

/-- who took the trick, as the program finds it -/
theorem SeatsOk.taker {m : Nat} {g : Game} {seats : List (Nat × Nat)} (S : SeatsOk m g seats) {c x : Nat} (hc : c ∈ g.may) (hl : g.trick.length = 3) (hx : Takes g.trump (g.trick ++ [c]) x) :
    (x, (g.play c).1.first) ∈ seats := by
  obtain ⟨h1, h2⟩ := S.four hc
  have := h2 _ _ (takes_eq h1 hx)
  have e : (g.play c).1.first = (g.first + takerG suit g.trump (g.trick ++ [c])) % 4 := by
    have : (toG (g.play c).1).first = _ := congrArg G.first (play_toG g S.ok.h4 c)
    unfold G.play at this
    rw [if_pos (show (toG g).trick.length + 1 = 4 by show g.trick.length + 1 = 4; omega)] at this
    exact this
  rw [e]; exact this

/-! ### lists that rise -/
theorem rise_eq : ∀ {l l' : List Nat}, l.Pairwise (· < ·) → l'.Pairwise (· < ·) → (∀ x, x ∈ l ↔ x ∈ l') → l = l'
  | [], [], _, _, _ => rfl
  | [], b :: r, _, _, h => absurd ((h b).mpr List.mem_cons_self) (by simp)
  | a :: r, [], _, _, h => absurd ((h a).mp List.mem_cons_self) (by simp)
  | a :: r, b :: r', h1, h2, h => by
    obtain ⟨a1, a2⟩ := List.pairwise_cons.mp h1
    obtain ⟨b1, b2⟩ := List.pairwise_cons.mp h2
    have e : a = b := by
      have p := (h a).mp List.mem_cons_self
      have q := (h b).mpr List.mem_cons_self
      rcases List.mem_cons.mp p with p | p
      · exact p
      · rcases List.mem_cons.mp q with q | q
        · exact q.symm
        · have := a1 b q; have := b1 a p; omega
    subst e
    congr 1
    refine rise_eq a2 b2 fun x => ?_
    have := h x
    rw [List.mem_cons, List.mem_cons] at this
    constructor
    · intro hx
      rcases this.mp (.inr hx) with z | z
      · have := a1 x hx; omega
      · exact z
    · intro hx
      rcases this.mpr (.inr hx) with z | z
      · have := b1 x hx; omega
      · exact z

theorem mem_insert {x y : Nat} : ∀ {l : List Nat}, y ∈ Sy12.insert x l ↔ y = x ∨ y ∈ l
  | [] => by simp [Sy12.insert]
  | a :: l => by
    unfold Sy12.insert
    by_cases e : x ≤ a
    · rw [if_pos e, List.mem_cons]
    · rw [if_neg e, List.mem_cons, mem_insert, List.mem_cons]
      constructor
      · rintro (h | h | h)
        · exact .inr (.inl h)
        · exact .inl h
        · exact .inr (.inr h)
      · rintro (h | h | h)
        · exact .inr (.inl h)
        · exact .inl h
        · exact .inr (.inr h)
theorem mem_sorted {y : Nat} : ∀ {l : List Nat}, y ∈ Sy12.sorted l ↔ y ∈ l
  | [] => Iff.rfl
  | a :: l => by
    show y ∈ Sy12.insert a (Sy12.sorted l) ↔ _
    rw [mem_insert, mem_sorted, List.mem_cons]
theorem insert_rise {x : Nat} : ∀ {l : List Nat}, l.Pairwise (· < ·) → x ∉ l → (Sy12.insert x l).Pairwise (· < ·)
  | [], _, _ => by simp [Sy12.insert]
  | a :: l, h, hx => by
    obtain ⟨a1, a2⟩ := List.pairwise_cons.mp h
    unfold Sy12.insert
    by_cases e : x ≤ a
    · rw [if_pos e, List.pairwise_cons]
      have hxa : x ≠ a := fun z => hx (by rw [z]; exact List.mem_cons_self)
      refine ⟨fun y hy => ?_, h⟩
      rcases List.mem_cons.mp hy with z | z
      · omega
      · have := a1 y z; omega
    · rw [if_neg e, List.pairwise_cons]
      refine ⟨fun y hy => ?_, insert_rise a2 fun z => hx (List.mem_cons_of_mem _ z)⟩
      rcases mem_insert.mp hy with z | z
      · omega
      · exact a1 y z
theorem sorted_rise : ∀ {l : List Nat}, l.Nodup → (Sy12.sorted l).Pairwise (· < ·)
  | [], _ => List.Pairwise.nil
  | a :: l, h => by
    obtain ⟨h1, h2⟩ := List.nodup_cons.mp h
    exact insert_rise (sorted_rise h2) fun z => h1 (mem_sorted.mp z)

/-! ### the deal -/
theorem distinct_iff : ∀ {l : List Nat}, Sy12.distinct l = true ↔ l.Nodup
  | [] => by simp [Sy12.distinct]
  | x :: l => by
    unfold Sy12.distinct
    rw [Bool.and_eq_true, distinct_iff, List.nodup_cons, Bool.not_eq_true', ← Bool.not_eq_true, List.contains_iff_mem]

def dealG (l : List Nat) (k t f : Nat) : Game := ⟨(List.range 4).map fun s => (l.drop (s * k)).take k, t, f, []⟩
def dealS (l : List Nat) (k : Nat) : List (Nat × Nat) := (List.range l.length).map fun i => (l.getD i 0, i / k)

theorem deal_hand (l : List Nat) (k t f : Nat) {s : Nat} (hs : s < 4) : (dealG l k t f).hand s = (l.drop (s * k)).take k := by
  unfold Game.hand dealG
  rw [List.getD_eq_getElem?_getD, List.getElem?_map, List.getElem?_range hs]; rfl

theorem mem_piece {l : List Nat} {a k x : Nat} : x ∈ (l.drop a).take k ↔ ∃ i, a ≤ i ∧ i < a + k ∧ l[i]? = some x := by
  rw [List.mem_iff_getElem?]
  constructor
  · rintro ⟨i, hi⟩
    rw [List.getElem?_take] at hi
    by_cases e : i < k
    · rw [if_pos e, List.getElem?_drop] at hi
      exact ⟨a + i, by omega, by omega, hi⟩
    · rw [if_neg e] at hi; cases hi
  · rintro ⟨i, h1, h2, h3⟩
    refine ⟨i - a, ?_⟩
    rw [List.getElem?_take, if_pos (by omega), List.getElem?_drop, show a + (i - a) = i by omega]; exact h3

theorem deal_ok {l : List Nat} {k t f : Nat} (hk1 : 1 ≤ k) (hk6 : k ≤ 6) (ht : t ≤ 4) (hf : f < 4) (hlen : l.length = 4 * k) (hlt : ∀ c ∈ l, c < 52) (hn : l.Nodup) :
    SeatsOk k (dealG l k t f) (dealS l k) := by
  have inj : ∀ {i j c : Nat}, l[i]? = some c → l[j]? = some c → i = j := fun {i j c} h1 h2 => by
    obtain ⟨a1, e1⟩ := List.getElem?_eq_some_iff.mp h1
    obtain ⟨a2, e2⟩ := List.getElem?_eq_some_iff.mp h2
    exact nd_inj hn a1 a2 (e1.trans e2.symm)
  have hand : ∀ s, s < 4 → ∀ c, c ∈ (dealG l k t f).hand s ↔ ∃ i, l[i]? = some c ∧ i / k = s := fun s hs c => by
    rw [deal_hand l k t f hs, mem_piece]
    constructor
    · rintro ⟨i, h1, h2, h3⟩
      refine ⟨i, h3, ?_⟩
      exact (Nat.div_eq_iff (by omega)).mpr ⟨h1, by omega⟩
    · rintro ⟨i, h1, h2⟩
      obtain ⟨h3, h4⟩ := (Nat.div_eq_iff (by omega)).mp h2
      exact ⟨i, h3, by omega, h1⟩
  have at_ : ∀ s c, At (toG (dealG l k t f)) s c ↔ s < 4 ∧ ∃ i, l[i]? = some c ∧ i / k = s := fun s c => by
    constructor
    · rintro ⟨hs, h | ⟨i, hi, _⟩⟩
      · exact ⟨hs, (hand s hs c).mp h⟩
      · have hi : ([] : List Nat)[i]? = some c := hi
        simp at hi
    · rintro ⟨hs, h⟩
      exact ⟨hs, .inl ((hand s hs c).mpr h)⟩
  have memS : ∀ c s, (c, s) ∈ dealS l k ↔ ∃ i, l[i]? = some c ∧ i / k = s := fun c s => by
    unfold dealS
    rw [List.mem_map]
    constructor
    · rintro ⟨i, hi, e⟩
      have hi := List.mem_range.mp hi
      have e1 : l.getD i 0 = c := congrArg Prod.fst e
      have e2 : i / k = s := congrArg Prod.snd e
      refine ⟨i, ?_, e2⟩
      rw [← e1, List.getD_eq_getElem?_getD, List.getElem?_eq_getElem hi]; rfl
    · rintro ⟨i, h1, h2⟩
      refine ⟨i, List.mem_range.mpr (List.getElem?_eq_some_iff.mp h1).1, ?_⟩
      rw [List.getD_eq_getElem?_getD, h1, h2]; rfl
  refine ⟨⟨by unfold dealG; rw [List.length_map, List.length_range], ⟨hf, (by show (0 : Nat) < 4; decide), fun z => absurd rfl z, fun s hs => ?_, fun s hs => ?_⟩⟩, ⟨fun s s' c h1 h2 => ?_, fun i c s _ hi => ?_⟩, ht, fun c s h => ?_, fun c s => ?_, ?_, hk6⟩
  · rw [if_neg (by show ¬ _ < 0; omega)]
    show ((dealG l k t f).hand s).length = k
    rw [deal_hand l k t f hs, List.length_take, List.length_drop, hlen]
    have : s * k + k ≤ 4 * k := by
      have : (s + 1) * k ≤ 4 * k := Nat.mul_le_mul_right k (by omega)
      rw [Nat.add_mul] at this; omega
    omega
  · show ((dealG l k t f).hand s).Nodup
    rw [deal_hand l k t f hs]
    exact ((hn.sublist (List.drop_sublist _ _)).sublist (List.take_sublist _ _))
  · obtain ⟨_, i, h3, h4⟩ := (at_ s c).mp h1
    obtain ⟨_, j, h5, h6⟩ := (at_ s' c).mp h2
    have := inj h3 h5
    subst this
    exact h4.symm.trans h6
  · have hi : ([] : List Nat)[i]? = some c := hi
    simp at hi
  · obtain ⟨i, h1, _⟩ := (memS c s).mp h
    exact hlt c (List.mem_of_getElem? h1)
  · rw [memS, at_]
    constructor
    · rintro ⟨i, h1, h2⟩
      have hi := (List.getElem?_eq_some_iff.mp h1).1
      refine ⟨?_, i, h1, h2⟩
      rw [← h2]
      exact (Nat.div_lt_iff_lt_mul (by omega)).mpr (by omega)
    · exact fun h => h.2
  · have e : (dealS l k).map (·.1) = l := by
      unfold dealS
      rw [List.map_map]
      refine List.ext_getElem? fun i => ?_
      rw [List.getElem?_map]
      by_cases h : i < l.length
      · rw [List.getElem?_range h, List.getElem?_eq_getElem h]
        show some (l.getD i 0) = _
        rw [List.getD_eq_getElem?_getD, List.getElem?_eq_getElem h]; rfl
      · rw [List.getElem?_eq_none (by rw [List.length_range]; omega), List.getElem?_eq_none (by omega)]; rfl
    rw [e]; exact hn
end LT

end
section
set_option autoImplicit false
set_option linter.all false
/-! The table's cards written as an order. -/
namespace LT
open Sy12 (Game suit height side value)

def keyIn (seats : List (Nat × Nat)) (c : Nat) : Bool := seats.any fun p => p.1 == c
def seatOf (seats : List (Nat × Nat)) (c : Nat) : Nat := ((seats.find? fun p => p.1 == c).map (·.2)).getD 0
def inSuit (seats : List (Nat × Nat)) (s : Nat) : List Nat := (List.range' (s * 13) 13).filter (keyIn seats)
def plainSuits (t : Nat) : List Nat := (List.range 4).filter (fun s => s != t)
def byPlace (I : Nat → List Nat) (L : List Nat) (t : Nat) : List Nat := L.flatMap (fun s => I s ++ [255]) ++ I t
def cardsP (seats : List (Nat × Nat)) (t : Nat) : List Nat := byPlace (inSuit seats) (plainSuits t) t
def signOf (seats : List (Nat × Nat)) (c : Nat) : Nat := if c = 255 then 4 else seatOf seats c
def orderP (seats : List (Nat × Nat)) (t : Nat) : List Nat := (cardsP seats t).map (signOf seats)
def place (seats : List (Nat × Nat)) (t : Nat) (c : Nat) : Nat := (cardsP seats t).idxOf c

section
variable {I : Nat → List Nat} (hI : ∀ s c, c ∈ I s → suit c = s ∧ c ≠ 255) (hP : ∀ s, (I s).Pairwise (· < ·))
include hI

theorem I_count (s : Nat) : (I s).count 255 = 0 := List.count_eq_zero.mpr fun h => (hI s 255 h).2 rfl
theorem I_take (s p : Nat) : ((I s).take p).count 255 = 0 := by
  have h : ((I s).take p).count 255 ≤ (I s).count 255 := (List.take_sublist _ _).count_le 255
  rw [I_count hI s] at h; omega

theorem byPlace_cons (s : Nat) (L : List Nat) (t : Nat) : byPlace I (s :: L) t = I s ++ 255 :: byPlace I L t := by
  unfold byPlace
  rw [List.flatMap_cons, List.append_assoc, List.append_assoc]; rfl

theorem by_count (t : Nat) : ∀ L : List Nat, (byPlace I L t).count 255 = L.length
  | [] => by unfold byPlace; rw [List.flatMap_nil, List.nil_append]; exact I_count hI t
  | s :: L => by rw [byPlace_cons hI, List.count_append, I_count hI, List.count_cons_self, by_count t L, List.length_cons]; omega

theorem by_mem {t c : Nat} (hc : c ≠ 255) : ∀ {L : List Nat}, c ∈ byPlace I L t ↔ ∃ s ∈ L ++ [t], c ∈ I s
  | [] => by
    unfold byPlace
    rw [List.flatMap_nil, List.nil_append]
    constructor
    · exact fun h => ⟨t, by simp, h⟩
    · rintro ⟨s, hs, h⟩
      have : s = t := by simpa using hs
      subst this; exact h
  | s :: L => by
    rw [byPlace_cons hI, List.mem_append, List.mem_cons, by_mem hc (L := L)]
    constructor
    · rintro (h | h | ⟨s', hs, h⟩)
      · exact ⟨s, by simp, h⟩
      · exact absurd h hc
      · exact ⟨s', by rw [List.cons_append]; exact List.mem_cons_of_mem _ hs, h⟩
    · rintro ⟨s', hs, h⟩
      rw [List.cons_append] at hs
      rcases List.mem_cons.mp hs with z | z
      · subst z; exact .inl h
      · exact .inr (.inr ⟨s', z, h⟩)

/-- which suit stands at a place -/
theorem by_suit {t : Nat} : ∀ {L : List Nat} {p c : Nat}, (byPlace I L t)[p]? = some c → c ≠ 255 → (L ++ [t])[((byPlace I L t).take p).count 255]? = some (suit c)
  | [], p, c, h, hc => by
    have e0 : byPlace I [] t = I t := by unfold byPlace; rw [List.flatMap_nil, List.nil_append]
    rw [e0] at h ⊢
    rw [I_take hI, (hI t c (List.mem_of_getElem? h)).1]; rfl
  | s :: L, p, c, h, hc => by
    rw [byPlace_cons hI] at h ⊢
    by_cases e : p < (I s).length
    · rw [List.getElem?_append_left e] at h
      rw [List.take_append_of_le_length (Nat.le_of_lt e), I_take hI, (hI s c (List.mem_of_getElem? h)).1]; rfl
    · rw [List.getElem?_append_right (by omega)] at h
      obtain ⟨k, hk⟩ : ∃ k, p = (I s).length + k := ⟨p - (I s).length, by omega⟩
      subst hk
      rw [show (I s).length + k - (I s).length = k by omega] at h
      cases k with
      | zero => exact absurd (Option.some.inj h).symm hc
      | succ k =>
        rw [List.getElem?_cons_succ] at h
        rw [List.take_append, List.take_of_length_le (by omega), show (I s).length + (k + 1) - (I s).length = k + 1 by omega, List.take_succ_cons, List.count_append, I_count hI, List.count_cons_self, Nat.zero_add, List.cons_append, List.getElem?_cons_succ]
        exact by_suit h hc

include hP in
/-- within a suit the higher card stands behind -/
theorem by_lt {t : Nat} : ∀ {L : List Nat} {p q c d : Nat}, (L ++ [t]).Nodup → (byPlace I L t)[p]? = some c → (byPlace I L t)[q]? = some d → c ≠ 255 → d ≠ 255 → suit c = suit d → p < q → c < d
  | [], p, q, c, d, _, h1, h2, _, _, _, h => by
    unfold byPlace at h1 h2
    rw [List.flatMap_nil, List.nil_append] at h1 h2
    obtain ⟨a1, e1⟩ := List.getElem?_eq_some_iff.mp h1
    obtain ⟨a2, e2⟩ := List.getElem?_eq_some_iff.mp h2
    have := List.pairwise_iff_getElem.mp (hP t) p q a1 a2 h
    rw [e1, e2] at this; exact this
  | s :: L, p, q, c, d, hn, h1, h2, hc, hd, e, h => by
    rw [byPlace_cons hI] at h1 h2
    rw [List.cons_append, List.nodup_cons] at hn
    by_cases ep : p < (I s).length
    · rw [List.getElem?_append_left ep] at h1
      by_cases eq : q < (I s).length
      · rw [List.getElem?_append_left eq] at h2
        obtain ⟨a1, e1⟩ := List.getElem?_eq_some_iff.mp h1
        obtain ⟨a2, e2⟩ := List.getElem?_eq_some_iff.mp h2
        have := List.pairwise_iff_getElem.mp (hP s) p q a1 a2 h
        rw [e1, e2] at this; exact this
      · exfalso
        rw [List.getElem?_append_right (by omega)] at h2
        have hm := List.mem_of_getElem? h2
        have hm : d ∈ byPlace I L t := by
          rcases List.mem_cons.mp hm with z | z
          · exact absurd z hd
          · exact z
        obtain ⟨s', hs, hds⟩ := (by_mem hI hd).mp hm
        have := (hI s' d hds).1
        have := (hI s c (List.mem_of_getElem? h1)).1
        have : s = s' := by omega
        subst this
        exact hn.1 hs
    · rw [List.getElem?_append_right (by omega)] at h1 h2
      obtain ⟨k, hk⟩ : ∃ k, p = (I s).length + k := ⟨p - (I s).length, by omega⟩
      obtain ⟨j, hj⟩ : ∃ j, q = (I s).length + j := ⟨q - (I s).length, by omega⟩
      subst hk; subst hj
      rw [show (I s).length + k - (I s).length = k by omega] at h1
      rw [show (I s).length + j - (I s).length = j by omega] at h2
      cases k with
      | zero => exact absurd (Option.some.inj h1).symm hc
      | succ k =>
        cases j with
        | zero => exact absurd (Option.some.inj h2).symm hd
        | succ j =>
          rw [List.getElem?_cons_succ] at h1 h2
          exact by_lt hn.2 h1 h2 hc hd e (by omega)
end

theorem inSuit_ok (seats : List (Nat × Nat)) (hs : ∀ c s, (c, s) ∈ seats → c < 52) (s c : Nat) (h : c ∈ inSuit seats s) : suit c = s ∧ c ≠ 255 := by
  unfold inSuit at h
  rw [List.mem_filter, List.mem_range'_1] at h
  obtain ⟨h1, h2⟩ := h
  unfold keyIn at h2
  obtain ⟨p, hp, e⟩ := List.any_eq_true.mp h2
  rw [beq_iff_eq] at e
  have := hs p.1 p.2 hp
  unfold suit
  omega
theorem inSuit_rise (seats : List (Nat × Nat)) (s : Nat) : (inSuit seats s).Pairwise (· < ·) := List.Pairwise.filter _ List.pairwise_lt_range'
theorem plain_nodup : ∀ t, t ≤ 4 → (plainSuits t ++ [t]).Nodup := by decide
theorem plain_all : ∀ t, t ≤ 4 → ∀ s, s < 4 → s ∈ plainSuits t ++ [t] := by decide
theorem plain_len (t : Nat) : (plainSuits t ++ [t])[(plainSuits t).length]? = some t := by
  rw [List.getElem?_append_right (Nat.le_refl _), Nat.sub_self]; rfl

theorem keyIn_iff {seats : List (Nat × Nat)} {c : Nat} : keyIn seats c = true ↔ ∃ s, (c, s) ∈ seats := by
  unfold keyIn
  rw [List.any_eq_true]
  constructor
  · rintro ⟨p, hp, e⟩
    rw [beq_iff_eq] at e
    exact ⟨p.2, by rw [← e]; exact hp⟩
  · rintro ⟨s, h⟩
    exact ⟨_, h, by rw [beq_iff_eq]⟩

/-- a list without repetition is no longer than one that has all its items -/
theorem nd_len {α : Type} [DecidableEq α] : ∀ {l l' : List α}, l.Nodup → (∀ x ∈ l, x ∈ l') → l.length ≤ l'.length
  | [], _, _, _ => Nat.zero_le _
  | a :: l, l', hn, h => by
    obtain ⟨h1, h2⟩ := List.nodup_cons.mp hn
    have ha := h a List.mem_cons_self
    have := nd_len (l := l) (l' := l'.erase a) h2 fun x hx => (List.mem_erase_of_ne (show x ≠ a from fun z => h1 (by rw [← z]; exact hx))).mpr (h x (List.mem_cons_of_mem _ hx))
    rw [List.length_erase_of_mem ha] at this
    have := List.length_pos_of_mem ha
    rw [List.length_cons]; omega
theorem nd_same {α : Type} [DecidableEq α] {l l' : List α} (h1 : l.Nodup) (h2 : l'.Nodup) (h : ∀ x, x ∈ l ↔ x ∈ l') : l.length = l'.length :=
  Nat.le_antisymm (nd_len h1 fun x hx => (h x).mp hx) (nd_len h2 fun x hx => (h x).mpr hx)

theorem count_map_of {F : Nat → Nat} : ∀ {l : List Nat}, (∀ c ∈ l, (F c = 4 ↔ c = 255)) → (l.map F).count 4 = l.count 255
  | [], _ => rfl
  | a :: l, h => by
    rw [List.map_cons, List.count_cons, List.count_cons, count_map_of fun c hc => h c (List.mem_cons_of_mem _ hc)]
    have := h a List.mem_cons_self
    by_cases e : a = 255
    · rw [if_pos (by rw [beq_iff_eq]; exact this.mpr e), if_pos (by rw [beq_iff_eq]; exact e)]
    · rw [if_neg (by rw [beq_iff_eq]; exact fun z => e (this.mp z)), if_neg (by rw [beq_iff_eq]; exact e)]

/-- the cards that a seat has on the table -/
def cardsAt (g : G) (s : Nat) : List Nat := g.hands s ++ ((List.range g.trick.length).filter (fun i => (g.first + i) % 4 == s)).map (fun i => g.trick.getD i 0)
theorem mem_cardsAt {g : G} {s c : Nat} (hs : s < 4) : c ∈ cardsAt g s ↔ At g s c := by
  unfold cardsAt
  rw [List.mem_append, List.mem_map]
  constructor
  · rintro (h | ⟨i, hi, e⟩)
    · exact ⟨hs, .inl h⟩
    · rw [List.mem_filter, List.mem_range, beq_iff_eq] at hi
      refine ⟨hs, .inr ⟨i, ?_, hi.2⟩⟩
      rw [← e, List.getD_eq_getElem?_getD, List.getElem?_eq_getElem hi.1]; rfl
  · rintro ⟨_, h | ⟨i, hi, e⟩⟩
    · exact .inl h
    · refine .inr ⟨i, ?_, ?_⟩
      · rw [List.mem_filter, List.mem_range, beq_iff_eq]; exact ⟨(List.getElem?_eq_some_iff.mp hi).1, e⟩
      · rw [List.getD_eq_getElem?_getD, hi]; rfl

theorem idx_filter {n f s : Nat} (hn : n ≤ 4) (hf : f < 4) (hs : s < 4) : (List.range n).filter (fun i => (f + i) % 4 == s) = if (s + 4 - f) % 4 < n then [(s + 4 - f) % 4] else [] := by
  have a1 : n = 0 ∨ n = 1 ∨ n = 2 ∨ n = 3 ∨ n = 4 := by omega
  have a2 : f = 0 ∨ f = 1 ∨ f = 2 ∨ f = 3 := by omega
  have a3 : s = 0 ∨ s = 1 ∨ s = 2 ∨ s = 3 := by omega
  rcases a1 with rfl | rfl | rfl | rfl | rfl <;> rcases a2 with rfl | rfl | rfl | rfl <;> rcases a3 with rfl | rfl | rfl | rfl <;> decide

theorem cardsAt_len {m : Nat} {g : G} (W : WF m g) {s : Nat} (hs : s < 4) : (cardsAt g s).length = m := by
  unfold cardsAt
  have := W.len
  rw [List.length_append, List.length_map, W.cnt s hs, idx_filter (by omega) W.first hs]
  by_cases e : (s + 4 - g.first) % 4 < g.trick.length
  · rw [if_pos e, if_pos e]
    have : 1 ≤ m := W.pos (by intro z; rw [z] at e; simp at e)
    show m - 1 + 1 = m
    omega
  · rw [if_neg e, if_neg e]; rfl
theorem cardsAt_nodup {m : Nat} {g : G} (W : WF m g) (D : GD g) {s : Nat} (hs : s < 4) : (cardsAt g s).Nodup := by
  unfold cardsAt
  have := W.len
  rw [idx_filter (by omega) W.first hs]
  by_cases e : (s + 4 - g.first) % 4 < g.trick.length
  · rw [if_pos e, List.map_singleton, List.nodup_append]
    refine ⟨W.nd s hs, by simp, fun a ha b hb z => ?_⟩
    have hb : b = g.trick.getD ((s + 4 - g.first) % 4) 0 := by simpa using hb
    refine D.out ((s + 4 - g.first) % 4) a s hs ?_ ha
    rw [z, hb, List.getD_eq_getElem?_getD, List.getElem?_eq_getElem e]; rfl
  · rw [if_neg e, List.map_nil, List.append_nil]; exact W.nd s hs

section
variable {m : Nat} {g : Game} {seats : List (Nat × Nat)}

theorem SeatsOk.seatOf (S : SeatsOk m g seats) {c s : Nat} (h : (c, s) ∈ seats) : LT.seatOf seats c = s := by
  unfold LT.seatOf
  cases e : seats.find? (fun p => p.1 == c) with
  | none =>
    have := List.find?_eq_none.mp e (c, s) h
    exact absurd (by rw [beq_iff_eq]) this
  | some p =>
    have h1 := List.mem_of_find?_eq_some e
    have h2 := List.find?_some e
    rw [beq_iff_eq] at h2
    have : (c, p.2) ∈ seats := by rw [← h2]; exact h1
    exact S.uniq this h

theorem SeatsOk.memP (S : SeatsOk m g seats) {c : Nat} (hc : c ≠ 255) : c ∈ cardsP seats g.trump ↔ ∃ s, (c, s) ∈ seats := by
  unfold cardsP
  rw [by_mem (inSuit_ok seats S.lt) hc]
  constructor
  · rintro ⟨s, hs, h⟩
    unfold inSuit at h
    exact keyIn_iff.mp (List.mem_filter.mp h).2
  · rintro ⟨s, h⟩
    have h52 := S.lt c s h
    refine ⟨suit c, plain_all _ S.trump _ (by unfold suit; omega), ?_⟩
    unfold inSuit
    rw [List.mem_filter, List.mem_range'_1]
    exact ⟨by unfold suit; omega, keyIn_iff.mpr ⟨s, h⟩⟩

theorem SeatsOk.n255 (S : SeatsOk m g seats) {c s : Nat} (h : (c, s) ∈ seats) : c ≠ 255 := by have := S.lt c s h; omega

theorem SeatsOk.at_place (S : SeatsOk m g seats) {c s : Nat} (h : (c, s) ∈ seats) : (cardsP seats g.trump)[place seats g.trump c]? = some c := by
  have hm := (S.memP (S.n255 h)).mpr ⟨s, h⟩
  unfold place
  have hl := List.idxOf_lt_length_of_mem hm
  rw [List.getElem?_eq_getElem hl, List.getElem_idxOf hl]

theorem SeatsOk.place_of (S : SeatsOk m g seats) {p c : Nat} (h : (cardsP seats g.trump)[p]? = some c) (hc : c ≠ 255) : place seats g.trump c = p := by
  obtain ⟨s, hs⟩ := (S.memP hc).mp (List.mem_of_getElem? h)
  have h2 := S.at_place hs
  have N := plain_nodup _ S.trump
  by_cases e : place seats g.trump c < p
  · have := by_lt (inSuit_ok seats S.lt) (inSuit_rise seats) N h2 h hc hc rfl e; omega
  · by_cases e' : p < place seats g.trump c
    · have := by_lt (inSuit_ok seats S.lt) (inSuit_rise seats) N h h2 hc hc rfl e'; omega
    · omega

theorem SeatsOk.sign (S : SeatsOk m g seats) {c s : Nat} (h : (c, s) ∈ seats) : signOf seats c = s := by
  unfold signOf
  rw [if_neg (S.n255 h), S.seatOf h]
theorem SeatsOk.sign4 (S : SeatsOk m g seats) {c : Nat} (h : c ∈ cardsP seats g.trump) : signOf seats c = 4 ↔ c = 255 := by
  by_cases e : c = 255
  · unfold signOf; rw [if_pos e]; exact ⟨fun _ => e, fun _ => rfl⟩
  · obtain ⟨s, hs⟩ := (S.memP e).mp h
    have := S.seat_lt hs
    rw [S.sign hs]
    exact ⟨fun z => by omega, fun z => absurd z e⟩

theorem SeatsOk.order_at (S : SeatsOk m g seats) {c s : Nat} (h : (c, s) ∈ seats) : (orderP seats g.trump)[place seats g.trump c]? = some s := by
  unfold orderP
  rw [List.getElem?_map, S.at_place h]
  show some (signOf seats c) = _
  rw [S.sign h]
theorem SeatsOk.of_order (S : SeatsOk m g seats) {p s : Nat} (h : (orderP seats g.trump)[p]? = some s) (hs : s < 4) : ∃ c, (c, s) ∈ seats ∧ place seats g.trump c = p := by
  unfold orderP at h
  rw [List.getElem?_map] at h
  cases e : (cardsP seats g.trump)[p]? with
  | none => rw [e] at h; cases h
  | some c =>
    rw [e] at h
    have h : signOf seats c = s := Option.some.inj h
    have hc : c ≠ 255 := fun z => by rw [(S.sign4 (List.mem_of_getElem? e)).mpr z] at h; omega
    obtain ⟨s', hs'⟩ := (S.memP hc).mp (List.mem_of_getElem? e)
    rw [S.sign hs'] at h
    subst h
    exact ⟨c, hs', S.place_of e hc⟩
theorem SeatsOk.inj (S : SeatsOk m g seats) {c d s s' : Nat} (h : (c, s) ∈ seats) (h' : (d, s') ∈ seats) (e : place seats g.trump c = place seats g.trump d) : c = d := by
  have a := S.at_place h
  have b := S.at_place h'
  rw [e, b] at a
  exact (Option.some.inj a).symm

theorem SeatsOk.sAt (S : SeatsOk m g seats) (p : Nat) : LT.sAt (orderP seats g.trump) p = ((cardsP seats g.trump).take p).count 255 := by
  unfold LT.sAt orderP
  rw [← List.map_take]
  exact count_map_of fun c hc => S.sign4 (List.mem_of_mem_take hc)
theorem SeatsOk.tS (S : SeatsOk m g seats) : LT.tS (orderP seats g.trump) = (plainSuits g.trump).length := by
  unfold LT.tS orderP
  rw [count_map_of fun c hc => S.sign4 hc]
  exact by_count (inSuit_ok seats S.lt) _ _
theorem SeatsOk.suit_at (S : SeatsOk m g seats) {c s : Nat} (h : (c, s) ∈ seats) : (plainSuits g.trump ++ [g.trump])[LT.sAt (orderP seats g.trump) (place seats g.trump c)]? = some (suit c) := by
  rw [S.sAt]
  exact by_suit (inSuit_ok seats S.lt) (S.at_place h) (S.n255 h)

/-- THE TABLE AND ITS ORDER play the same game -/
theorem SeatsOk.sim (S : SeatsOk m g seats) :
    Sim suit g.trump (LT.sAt (orderP seats g.trump)) (LT.tS (orderP seats g.trump)) (place seats g.trump) (toG g) (gameW (orderP seats g.trump) g.first (g.trick.map (place seats g.trump))) := by
  have N := plain_nodup _ S.trump
  have key : ∀ {s c : Nat}, At (toG g) s c → (c, s) ∈ seats := fun h => (S.mem _ _).mpr h
  have ix : ∀ {i j x y : Nat}, (plainSuits g.trump ++ [g.trump])[i]? = some x → (plainSuits g.trump ++ [g.trump])[j]? = some y → (x = y ↔ i = j) := fun {i j x y} h1 h2 => by
    obtain ⟨a1, e1⟩ := List.getElem?_eq_some_iff.mp h1
    obtain ⟨a2, e2⟩ := List.getElem?_eq_some_iff.mp h2
    constructor
    · intro z; exact nd_inj N a1 a2 (by rw [e1, e2, z])
    · intro z; subst z; exact e1.symm.trans e2
  refine ⟨rfl, rfl, S.len4, fun s hs x => ?_, fun s s' c d hc hd e => S.inj (key hc) (key hd) e, fun s s' c d hc hd => ?_, fun s c hc => ?_, fun s s' c d _ hc hd e => ?_⟩
  · show x ∈ handW (orderP seats g.trump) (g.trick.map (place seats g.trump)) s ↔ ∃ c ∈ g.hand s, place seats g.trump c = x
    rw [mem_handW]
    constructor
    · rintro ⟨h1, h2⟩
      obtain ⟨c, hc, rfl⟩ := S.of_order h1 hs
      refine ⟨c, ?_, rfl⟩
      obtain ⟨_, h | ⟨i, hi, _⟩⟩ := (S.mem c s).mp hc
      · exact h
      · exact absurd (List.mem_map.mpr ⟨c, List.mem_of_getElem? hi, rfl⟩) h2
    · rintro ⟨c, hc, rfl⟩
      have hk := key (At.hand (g := toG g) hs hc)
      refine ⟨S.order_at hk, fun z => ?_⟩
      obtain ⟨d, hd, e⟩ := List.mem_map.mp z
      obtain ⟨i, hi, ei⟩ := List.getElem_of_mem hd
      have hi' : g.trick[i]? = some d := by rw [List.getElem?_eq_getElem hi, ei]
      have := S.inj (S.trick_at hi') hk e
      subst this
      exact S.dis.out i d s hs hi' hc
  · exact ix (S.suit_at (key hc)) (S.suit_at (key hd))
  · rw [S.tS]
    exact ix (S.suit_at (key hc)) (plain_len g.trump)
  · have hc := key hc
    have hd := key hd
    have lt := fun {a b u v : Nat} (h1 : (a, u) ∈ seats) (h2 : (b, v) ∈ seats) (e : suit a = suit b) (h : place seats g.trump a < place seats g.trump b) =>
      by_lt (inSuit_ok seats S.lt) (inSuit_rise seats) N (S.at_place h1) (S.at_place h2) (S.n255 h1) (S.n255 h2) e h
    constructor
    · intro z
      by_cases q : place seats g.trump c < place seats g.trump d
      · exact q
      · by_cases q' : place seats g.trump d < place seats g.trump c
        · have := lt hd hc e.symm q'; omega
        · have := S.inj hc hd (by omega); omega
    · exact lt hc hd e

theorem SeatsOk.plOk (S : SeatsOk m g seats) : PlOk (orderP seats g.trump) g.first (g.trick.map (place seats g.trump)) := by
  refine ⟨S.ok.wf.first, fun i p h => ?_, by rw [List.length_map]; have := S.len4; omega⟩
  rw [List.getElem?_map] at h
  cases e : g.trick[i]? with
  | none => rw [e] at h; cases h
  | some c =>
    rw [e] at h
    have h : place seats g.trump c = p := Option.some.inj h
    subst h
    exact S.order_at (S.trick_at e)

theorem SeatsOk.okW (S : SeatsOk m g seats) : OkW m (orderP seats g.trump) := fun s hs => by
  rw [← handW_len, ← cardsAt_len S.ok.wf hs]
  have : (cardsAt (toG g) s).length = ((cardsAt (toG g) s).map (place seats g.trump)).length := (List.length_map _).symm
  rw [this]
  refine nd_same (nodup_handW _ _ _) ?_ fun x => ?_
  · have N := cardsAt_nodup S.ok.wf S.dis hs
    rw [List.nodup_iff_pairwise_ne] at N ⊢
    rw [List.pairwise_map]
    refine List.Pairwise.imp_of_mem (fun {a b} ha hb hab z => hab ?_) N
    exact S.inj ((S.mem _ _).mpr ((mem_cardsAt hs).mp ha)) ((S.mem _ _).mpr ((mem_cardsAt hs).mp hb)) z
  · rw [mem_handW, List.mem_map]
    constructor
    · rintro ⟨h, _⟩
      obtain ⟨c, hc, rfl⟩ := S.of_order h hs
      exact ⟨c, (mem_cardsAt hs).mpr ((S.mem _ _).mp hc), rfl⟩
    · rintro ⟨c, hc, rfl⟩
      exact ⟨S.order_at ((S.mem _ _).mpr ((mem_cardsAt hs).mp hc)), by simp⟩

theorem SeatsOk.length (S : SeatsOk m g seats) : seats.length = 4 * m := by
  have e : seats.length = (seats.map (·.1)).length := (List.length_map _).symm
  rw [e]
  have hl : ∀ s, s < 4 → (cardsAt (toG g) s).length = m := fun s hs => cardsAt_len S.ok.wf hs
  have hnd : ∀ s, s < 4 → (cardsAt (toG g) s).Nodup := fun s hs => cardsAt_nodup S.ok.wf S.dis hs
  have sep : ∀ s s', s < 4 → s' < 4 → s ≠ s' → ∀ a ∈ cardsAt (toG g) s, ∀ b ∈ cardsAt (toG g) s', a ≠ b := fun s s' hs hs' hne a ha b hb z => by
    subst z
    exact hne (S.dis.dis s s' a ((mem_cardsAt hs).mp ha) ((mem_cardsAt hs').mp hb))
  have N : (cardsAt (toG g) 0 ++ (cardsAt (toG g) 1 ++ (cardsAt (toG g) 2 ++ cardsAt (toG g) 3))).Nodup := by
    rw [List.nodup_append, List.nodup_append, List.nodup_append]
    refine ⟨hnd 0 (by decide), ⟨hnd 1 (by decide), ⟨hnd 2 (by decide), hnd 3 (by decide), sep 2 3 (by decide) (by decide) (by decide)⟩, fun a ha b hb => ?_⟩, fun a ha b hb => ?_⟩
    · rcases List.mem_append.mp hb with h | h
      · exact sep 1 2 (by decide) (by decide) (by decide) a ha b h
      · exact sep 1 3 (by decide) (by decide) (by decide) a ha b h
    · rcases List.mem_append.mp hb with h | h
      · exact sep 0 1 (by decide) (by decide) (by decide) a ha b h
      · rcases List.mem_append.mp h with h | h
        · exact sep 0 2 (by decide) (by decide) (by decide) a ha b h
        · exact sep 0 3 (by decide) (by decide) (by decide) a ha b h
  rw [nd_same S.nd N fun x => ?_]
  · simp only [List.length_append]
    rw [hl 0 (by decide), hl 1 (by decide), hl 2 (by decide), hl 3 (by decide)]; omega
  · rw [List.mem_map, List.mem_append, List.mem_append, List.mem_append, mem_cardsAt (by decide), mem_cardsAt (by decide), mem_cardsAt (by decide), mem_cardsAt (by decide)]
    constructor
    · rintro ⟨⟨c, s⟩, h, rfl⟩
      have h4 := S.seat_lt h
      have h := (S.mem _ _).mp h
      have : s = 0 ∨ s = 1 ∨ s = 2 ∨ s = 3 := by omega
      rcases this with rfl | rfl | rfl | rfl
      · exact .inl h
      · exact .inr (.inl h)
      · exact .inr (.inr (.inl h))
      · exact .inr (.inr (.inr h))
    · rintro (h | h | h | h)
      · exact ⟨_, (S.mem _ _).mpr h, rfl⟩
      · exact ⟨_, (S.mem _ _).mpr h, rfl⟩
      · exact ⟨_, (S.mem _ _).mpr h, rfl⟩
      · exact ⟨_, (S.mem _ _).mpr h, rfl⟩

/-! ### the outcome -/
theorem left_eq (S : GOk m g) : g.left + g.trick.length = 4 * m := by
  have h4 := S.h4
  unfold Game.left
  have c : ∀ s, s < 4 → (g.hands.getD s []).length = if (s + 4 - g.first) % 4 < g.trick.length then m - 1 else m := fun s hs => S.wf.cnt s hs
  match e : g.hands, h4 with
  | [a, b, c', d], _ =>
    rw [e] at c
    have c0 : a.length = _ := c 0 (by decide)
    have c1 : b.length = _ := c 1 (by decide)
    have c2 : c'.length = _ := c 2 (by decide)
    have c3 : d.length = _ := c 3 (by decide)
    have hf := S.wf.first
    have hl := S.wf.len
    have hp : g.trick ≠ [] → 1 ≤ m := S.wf.pos
    have hf : g.first < 4 := hf
    have hl : g.trick.length < 4 := hl
    have hp : 1 ≤ g.trick.length → 1 ≤ m := fun h => hp (by intro z; rw [z] at h; simp at h)
    show ([a.length, b.length, c'.length, d.length].sum) + g.trick.length = 4 * m
    rw [c0, c1, c2, c3]
    simp only [List.sum_cons, List.sum_nil]
    generalize g.trick.length = n at *
    generalize g.first = f at *
    have a1 : n = 0 ∨ n = 1 ∨ n = 2 ∨ n = 3 := by omega
    have a2 : f = 0 ∨ f = 1 ∨ f = 2 ∨ f = 3 := by omega
    rcases a1 with rfl | rfl | rfl | rfl <;> rcases a2 with rfl | rfl | rfl | rfl <;> simp <;> omega

theorem SeatsOk.win (S : SeatsOk m g seats) (need : Int) : need ≤ ((g.outcome : Nat) : Int) ↔ WinP m (orderP seats g.trump) g.first (g.trick.map (place seats g.trump)) need := by
  have hl := left_eq S.ok
  unfold Game.outcome
  rw [value_iff g.left need S.ok hl, Sim.win g.left need S.sim]
  unfold WinP
  rw [List.length_map, if_pos S.len4, show 4 * m - g.trick.length = g.left by omega]

theorem SeatsOk.win_by (S : SeatsOk m g seats) {c : Nat} (hc : c ∈ g.may) (need : Int) : need ≤ ((g.by_ c : Nat) : Int) ↔ WinP m (orderP seats g.trump) g.first (g.trick.map (place seats g.trump) ++ [place seats g.trump c]) need := by
  have hl := left_eq S.ok
  have hm := (may_iff g c).mp hc
  have W' := S.ok.play hc
  have h1 : 1 ≤ m := S.ok.wf.pos_of hm.1
  have hl' := left_eq W'
  rw [play_trick_len] at hl'
  have h4 := S.len4
  have hn : (g.play c).1.left = 4 * m - (g.trick.length + 1) := by
    by_cases e : g.trick.length + 1 = 4
    · rw [if_pos e, if_pos e] at hl'; omega
    · rw [if_neg e, if_neg e] at hl'; omega
  have hv := value_iff (g.play c).1.left (need - gain suit g.trump (toG g) c) W' (left_eq W')
  rw [play_trump, play_toG g S.ok.h4, Sim.win _ _ (S.sim.play hm.1), ← S.sim.gain hm.1, hn] at hv
  have hk : (c, g.turn) ∈ seats := S.hand.mpr hm.1
  have hpl : (orderP seats g.trump)[place seats g.trump c]? = some ((g.first + (g.trick.map (place seats g.trump)).length) % 4) := by
    rw [List.length_map]; exact S.order_at hk
  have hw := play_winP h1 S.plOk (by rw [List.length_map]; exact h4) hpl need
  rw [List.length_map] at hw
  rw [← hw, ← hv]
  unfold Game.by_ Game.outcome
  rw [hn, S.sim.gain hm.1, ← gain_toG]
  omega

theorem SeatsOk.plOk_by (S : SeatsOk m g seats) {c : Nat} (hc : c ∈ g.may) : PlOk (orderP seats g.trump) g.first (g.trick.map (place seats g.trump) ++ [place seats g.trump c]) := by
  have hm := (may_iff g c).mp hc
  refine S.plOk.snoc (by rw [List.length_map]; exact S.len4) ?_
  rw [List.length_map]
  exact S.order_at (S.hand.mpr hm.1)
theorem SeatsOk.outcome_le (S : SeatsOk m g seats) : g.outcome ≤ m := by
  have hl := left_eq S.ok
  have := (value_iff g.left (g.outcome : Int) S.ok hl).mp (Int.le_refl _)
  have := win_le g.left S.ok.wf hl this
  omega
theorem SeatsOk.by_le (S : SeatsOk m g seats) {c : Nat} (hc : c ∈ g.may) : g.by_ c ≤ m := by
  have hm := (may_iff g c).mp hc
  have h1 : 1 ≤ m := S.ok.wf.pos_of hm.1
  have W' := S.ok.play hc
  have hl' := left_eq W'
  have := (value_iff (g.play c).1.left ((g.play c).1.outcome : Int) W' hl').mp (Int.le_refl _)
  have := win_le (g.play c).1.left W'.wf hl' this
  have hg := gain_toG g c
  unfold Game.by_
  by_cases e : g.trick.length + 1 = 4
  · rw [if_pos e] at this
    have : (g.play c).2 ≤ 1 := by
      have : gain suit g.trump (toG g) c ≤ 1 := by unfold gain; split <;> decide
      omega
    omega
  · rw [if_neg e] at this
    rw [gain_mid e] at hg
    omega
end

/-- what is best for the seat whose turn it is -/
theorem outcome_best {m : Nat} {g : Game} (W : GOk m g) (hm : 1 ≤ m) : (if g.turn % 2 = 0 then (∀ c ∈ g.may, g.by_ c ≤ g.outcome) else (∀ c ∈ g.may, g.outcome ≤ g.by_ c)) ∧ ∃ c ∈ g.may, g.by_ c = g.outcome := by
  have hl := left_eq W
  have hpos : ∃ n, g.left = n + 1 := ⟨g.left - 1, by have := W.wf.len; have : g.trick.length < 4 := this; omega⟩
  obtain ⟨n, hn⟩ := hpos
  have hby : ∀ c ∈ g.may, g.by_ c = (g.play c).2 + value n (g.play c).1 := fun c hc => by
    have h1 := left_eq (W.play hc)
    rw [play_trick_len] at h1
    have := W.wf.len
    have : g.trick.length < 4 := this
    have e : (g.play c).1.left = n := by
      by_cases e : g.trick.length + 1 = 4
      · rw [if_pos e, if_pos e] at h1; omega
      · rw [if_neg e, if_neg e] at h1; omega
    unfold Game.by_ Game.outcome
    rw [e]
  obtain ⟨c0, hc0⟩ := W.wf.may_ex (sg := suit) hm
  have hne : g.may.map (fun c => (g.play c).2 + value n (g.play c).1) ≠ [] := by
    intro z
    have : g.may = [] := List.map_eq_nil_iff.mp z
    have h := (may_iff g c0).mpr hc0
    rw [this] at h; cases h
  have ho : g.outcome = Sy12.best (side g.turn) (g.may.map fun c => (g.play c).2 + value n (g.play c).1) := by
    unfold Game.outcome
    rw [hn]; rfl
  have hb := fun need => best_iff (side g.turn) hne need
  rw [← ho] at hb
  have hs : side g.turn = true ↔ g.turn % 2 = 0 := by unfold side; rw [beq_iff_eq]
  by_cases e : g.turn % 2 = 0
  · rw [if_pos e]
    simp only [if_pos (hs.mpr e)] at hb
    have le : ∀ c ∈ g.may, g.by_ c ≤ g.outcome := fun c hc => by
      have := (hb (g.by_ c : Int)).mpr ⟨_, List.mem_map.mpr ⟨c, hc, rfl⟩, by rw [hby c hc]; exact Int.le_refl _⟩
      omega
    obtain ⟨y, hy, h⟩ := (hb (g.outcome : Int)).mp (Int.le_refl _)
    obtain ⟨c, hc, rfl⟩ := List.mem_map.mp hy
    refine ⟨le, c, hc, ?_⟩
    have := le c hc
    rw [← hby c hc] at h
    omega
  · rw [if_neg e]
    simp only [if_neg (fun z => e (hs.mp z))] at hb
    have le : ∀ c ∈ g.may, g.outcome ≤ g.by_ c := fun c hc => by
      have := (hb (g.outcome : Int)).mp (Int.le_refl _) _ (List.mem_map.mpr ⟨c, hc, rfl⟩)
      rw [← hby c hc] at this
      omega
    refine ⟨le, ?_⟩
    by_cases q : ∃ c ∈ g.may, g.by_ c = g.outcome
    · exact q
    · exfalso
      have := (hb ((g.outcome : Int) + 1)).mpr fun y hy => by
        obtain ⟨c, hc, rfl⟩ := List.mem_map.mp hy
        have h1 := le c hc
        have h2 : g.by_ c ≠ g.outcome := fun z => q ⟨c, hc, z⟩
        have h3 : (g.outcome : Int) + 1 ≤ (g.by_ c : Int) := by omega
        rw [hby c hc] at h3
        exact h3
      omega
end LT

end
section
set_option autoImplicit false
set_option linter.all false
/-! How many orders can be met. -/
namespace LT
open Sy12 (Game suit)

/-- signs: seats and fences alone -/
def Signs (w : List Nat) : Prop := ∀ x ∈ w, x ≤ 4
theorem len_signs : ∀ {w : List Nat}, Signs w → w.length = w.count 0 + w.count 1 + w.count 2 + w.count 3 + w.count 4
  | [], _ => rfl
  | x :: w, h => by
    have ih := len_signs (w := w) fun y hy => h y (List.mem_cons_of_mem _ hy)
    have hx := h x List.mem_cons_self
    rw [List.length_cons, ih]
    have : x = 0 ∨ x = 1 ∨ x = 2 ∨ x = 3 ∨ x = 4 := by omega
    rcases this with rfl | rfl | rfl | rfl | rfl <;> simp only [List.count_cons] <;> simp <;> omega
theorem tricks_eq {m : Nat} {w : List Nat} (h : OkW m w) (hs : Signs w) : w.length = 4 * m + tS w := by
  rw [len_signs hs, h 0 (by decide), h 1 (by decide), h 2 (by decide), h 3 (by decide)]
  unfold tS; omega

/-- part of an order, all fences in it -/
structure SubO (w w0 : List Nat) : Prop where
  sub : w.Sublist w0
  cnt : w.count 4 = w0.count 4
theorem SubO.refl (w : List Nat) : SubO w w := ⟨List.Sublist.refl w, rfl⟩
theorem SubO.trans {a b c : List Nat} (h : SubO a b) (h' : SubO b c) : SubO a c := ⟨h.sub.trans h'.sub, h.cnt.trans h'.cnt⟩
theorem SubO.signs {w w0 : List Nat} (h : SubO w w0) (hs : Signs w0) : Signs w := fun x hx => hs x (h.sub.subset hx)

theorem upTo_sub (w P : List Nat) : ∀ (n : Nat), n ≤ w.length → (upTo w P n).Sublist (w.take n)
  | 0, _ => by unfold upTo; simp
  | n + 1, h => by
    have hx : w[n]? = some w[n] := List.getElem?_eq_getElem (by omega)
    have ih := upTo_sub w P n (by omega)
    rw [take_succ hx]
    by_cases e : n ∈ P
    · rw [upTo_in e]; exact ih.trans (List.sublist_append_left _ _)
    · rw [upTo_out e hx]; exact ih.append (List.Sublist.refl _)
theorem SubO.without {w P : List Nat} {lead : Nat} (hp : PlOk w lead P) : SubO (LT.without w P) w := by
  refine ⟨?_, tS_without hp⟩
  have := upTo_sub w P w.length (Nat.le_refl _)
  rwa [List.take_length] at this

/-! ### counting -/
def ch : Nat → Nat → Nat
  | _, 0 => 1
  | 0, _ + 1 => 0
  | n + 1, k + 1 => ch n (k + 1) + ch n k

/-- all parts of an order with J s cards of the seat s -/
def subs : List Nat → Nat → Nat → Nat → Nat → List (List Nat)
  | [], a, b, c, d => if a = 0 ∧ b = 0 ∧ c = 0 ∧ d = 0 then [[]] else []
  | x :: r, a, b, c, d =>
    if x = 0 then subs r a b c d ++ (match a with | 0 => [] | a + 1 => (subs r a b c d).map (x :: ·))
    else if x = 1 then subs r a b c d ++ (match b with | 0 => [] | b + 1 => (subs r a b c d).map (x :: ·))
    else if x = 2 then subs r a b c d ++ (match c with | 0 => [] | c + 1 => (subs r a b c d).map (x :: ·))
    else if x = 3 then subs r a b c d ++ (match d with | 0 => [] | d + 1 => (subs r a b c d).map (x :: ·))
    else (subs r a b c d).map (x :: ·)

theorem subs_len : ∀ (w : List Nat) (a b c d : Nat), Signs w → (subs w a b c d).length = ch (w.count 0) a * ch (w.count 1) b * ch (w.count 2) c * ch (w.count 3) d
  | [], a, b, c, d, _ => by
    unfold subs
    simp only [List.count_nil]
    by_cases e : a = 0 ∧ b = 0 ∧ c = 0 ∧ d = 0
    · obtain ⟨rfl, rfl, rfl, rfl⟩ := e
      rfl
    · rw [if_neg e]
      cases a with
      | succ a => simp [ch]
      | zero =>
        cases b with
        | succ b => simp [ch]
        | zero =>
          cases c with
          | succ c => simp [ch]
          | zero =>
            cases d with
            | succ d => simp [ch]
            | zero => exact absurd ⟨rfl, rfl, rfl, rfl⟩ e
  | x :: r, a, b, c, d, h => by
    have hr : Signs r := fun y hy => h y (List.mem_cons_of_mem _ hy)
    have hx := h x List.mem_cons_self
    have ih := fun a b c d => subs_len r a b c d hr
    unfold subs
    have : x = 0 ∨ x = 1 ∨ x = 2 ∨ x = 3 ∨ x = 4 := by omega
    rcases this with rfl | rfl | rfl | rfl | rfl
    · rw [if_pos rfl, List.length_append, ih, List.count_cons_self, List.count_cons_of_ne (by decide), List.count_cons_of_ne (by decide), List.count_cons_of_ne (by decide)]
      cases a with
      | zero => show _ + 0 = _; rw [Nat.add_zero]; cases List.count 0 r <;> rfl
      | succ a => show _ + (List.map _ _).length = _; rw [List.length_map, ih]; show _ = (ch _ (a + 1) + ch _ a) * _ * _ * _; simp only [Nat.add_mul]
    · rw [if_neg (by decide), if_pos rfl, List.length_append, ih, List.count_cons_self, List.count_cons_of_ne (by decide), List.count_cons_of_ne (by decide), List.count_cons_of_ne (by decide)]
      cases b with
      | zero => show _ + 0 = _; rw [Nat.add_zero]; cases List.count 1 r <;> rfl
      | succ b => show _ + (List.map _ _).length = _; rw [List.length_map, ih]; show _ = _ * (ch _ (b + 1) + ch _ b) * _ * _; simp only [Nat.add_mul, Nat.mul_add]
    · rw [if_neg (by decide), if_neg (by decide), if_pos rfl, List.length_append, ih, List.count_cons_self, List.count_cons_of_ne (by decide), List.count_cons_of_ne (by decide), List.count_cons_of_ne (by decide)]
      cases c with
      | zero => show _ + 0 = _; rw [Nat.add_zero]; cases List.count 2 r <;> rfl
      | succ c => show _ + (List.map _ _).length = _; rw [List.length_map, ih]; show _ = _ * _ * (ch _ (c + 1) + ch _ c) * _; simp only [Nat.add_mul, Nat.mul_add]
    · rw [if_neg (by decide), if_neg (by decide), if_neg (by decide), if_pos rfl, List.length_append, ih, List.count_cons_self, List.count_cons_of_ne (by decide), List.count_cons_of_ne (by decide), List.count_cons_of_ne (by decide)]
      cases d with
      | zero => show _ + 0 = _; rw [Nat.add_zero]; cases List.count 3 r <;> rfl
      | succ d => show _ + (List.map _ _).length = _; rw [List.length_map, ih]; show _ = _ * _ * _ * (ch _ (d + 1) + ch _ d); simp only [Nat.mul_add]
    · rw [if_neg (by decide), if_neg (by decide), if_neg (by decide), if_neg (by decide), List.length_map, ih, List.count_cons_of_ne (by decide), List.count_cons_of_ne (by decide), List.count_cons_of_ne (by decide), List.count_cons_of_ne (by decide)]

theorem subs_mem : ∀ {w w0 : List Nat}, w.Sublist w0 → w.count 4 = w0.count 4 → Signs w0 → w ∈ subs w0 (w.count 0) (w.count 1) (w.count 2) (w.count 3) := by
  intro w w0 h
  induction h with
  | slnil => intro _ _; unfold subs; simp
  | @cons l r x h ih =>
    intro hc hs
    have hr : Signs r := fun y hy => hs y (List.mem_cons_of_mem _ hy)
    have hx := hs x List.mem_cons_self
    have hle := h.count_le 4
    have : x = 0 ∨ x = 1 ∨ x = 2 ∨ x = 3 ∨ x = 4 := by omega
    unfold subs
    rcases this with rfl | rfl | rfl | rfl | rfl
    · rw [List.count_cons_of_ne (by decide)] at hc
      rw [if_pos rfl]; exact List.mem_append_left _ (ih hc hr)
    · rw [List.count_cons_of_ne (by decide)] at hc
      rw [if_neg (by decide), if_pos rfl]; exact List.mem_append_left _ (ih hc hr)
    · rw [List.count_cons_of_ne (by decide)] at hc
      rw [if_neg (by decide), if_neg (by decide), if_pos rfl]; exact List.mem_append_left _ (ih hc hr)
    · rw [List.count_cons_of_ne (by decide)] at hc
      rw [if_neg (by decide), if_neg (by decide), if_neg (by decide), if_pos rfl]; exact List.mem_append_left _ (ih hc hr)
    · rw [List.count_cons_self] at hc; omega
  | @cons_cons l r x h ih =>
    intro hc hs
    have hr : Signs r := fun y hy => hs y (List.mem_cons_of_mem _ hy)
    have hx := hs x List.mem_cons_self
    have : x = 0 ∨ x = 1 ∨ x = 2 ∨ x = 3 ∨ x = 4 := by omega
    unfold subs
    rcases this with rfl | rfl | rfl | rfl | rfl
    · rw [List.count_cons_of_ne (by decide), List.count_cons_of_ne (by decide)] at hc
      rw [if_pos rfl, List.count_cons_self, List.count_cons_of_ne (by decide), List.count_cons_of_ne (by decide), List.count_cons_of_ne (by decide)]
      exact List.mem_append_right _ (List.mem_map.mpr ⟨l, ih hc hr, rfl⟩)
    · rw [List.count_cons_of_ne (by decide), List.count_cons_of_ne (by decide)] at hc
      rw [if_neg (by decide), if_pos rfl, List.count_cons_self, List.count_cons_of_ne (by decide), List.count_cons_of_ne (by decide), List.count_cons_of_ne (by decide)]
      exact List.mem_append_right _ (List.mem_map.mpr ⟨l, ih hc hr, rfl⟩)
    · rw [List.count_cons_of_ne (by decide), List.count_cons_of_ne (by decide)] at hc
      rw [if_neg (by decide), if_neg (by decide), if_pos rfl, List.count_cons_self, List.count_cons_of_ne (by decide), List.count_cons_of_ne (by decide), List.count_cons_of_ne (by decide)]
      exact List.mem_append_right _ (List.mem_map.mpr ⟨l, ih hc hr, rfl⟩)
    · rw [List.count_cons_of_ne (by decide), List.count_cons_of_ne (by decide)] at hc
      rw [if_neg (by decide), if_neg (by decide), if_neg (by decide), if_pos rfl, List.count_cons_self, List.count_cons_of_ne (by decide), List.count_cons_of_ne (by decide), List.count_cons_of_ne (by decide)]
      exact List.mem_append_right _ (List.mem_map.mpr ⟨l, ih hc hr, rfl⟩)
    · rw [List.count_cons_self, List.count_cons_self] at hc
      rw [if_neg (by decide), if_neg (by decide), if_neg (by decide), if_neg (by decide), List.count_cons_of_ne (by decide), List.count_cons_of_ne (by decide), List.count_cons_of_ne (by decide), List.count_cons_of_ne (by decide)]
      exact List.mem_map.mpr ⟨l, ih (by omega) hr, rfl⟩

/-- every question that can be asked about parts of w0 -/
def asks (w0 : List Nat) (m : Nat) : List (List Nat × Nat × Nat) :=
  (List.range (m + 1)).flatMap fun j => (subs w0 j j j j).flatMap fun w => (List.range 4).flatMap fun l => (List.range 6).map fun n => (w, l, n + 1)

theorem flatMap_len {α β : Type} {f : α → List β} {n : Nat} : ∀ {l : List α}, (∀ x ∈ l, (f x).length = n) → (l.flatMap f).length = l.length * n
  | [], _ => by simp
  | a :: l, h => by
    rw [List.flatMap_cons, List.length_append, h a List.mem_cons_self, flatMap_len fun x hx => h x (List.mem_cons_of_mem _ hx), List.length_cons, Nat.add_mul]; omega

theorem asks_len {w0 : List Nat} {m : Nat} (h : OkW m w0) (hs : Signs w0) (hm : m ≤ 6) : (asks w0 m).length < 2 ^ 24 := by
  have e : ∀ j, ((subs w0 j j j j).flatMap fun w => (List.range 4).flatMap fun l => (List.range 6).map fun n => (w, l, n + 1)).length = ch m j * ch m j * ch m j * ch m j * 24 := fun j => by
    rw [flatMap_len (n := 24), subs_len w0 j j j j hs, h 0 (by decide), h 1 (by decide), h 2 (by decide), h 3 (by decide)]
    intro w _
    rw [flatMap_len (n := 6) (by intro x _; rw [List.length_map, List.length_range]), List.length_range]
  unfold asks
  rw [List.length_flatMap]
  have : (List.range (m + 1)).map (fun j => ((subs w0 j j j j).flatMap fun w => (List.range 4).flatMap fun l => (List.range 6).map fun n => (w, l, n + 1)).length) = (List.range (m + 1)).map (fun j => ch m j * ch m j * ch m j * ch m j * 24) := List.map_congr_left fun j _ => e j
  rw [this]
  have : m = 0 ∨ m = 1 ∨ m = 2 ∨ m = 3 ∨ m = 4 ∨ m = 5 ∨ m = 6 := by omega
  rcases this with rfl | rfl | rfl | rfl | rfl | rfl | rfl <;> decide

theorem mem_asks {w0 w : List Nat} {m j l n : Nat} (hs : Signs w0) (h0 : OkW m w0) (h : SubO w w0) (hj : OkW j w) (hl : l < 4) (h1 : 1 ≤ n) (h6 : n ≤ 6) : (w, l, n) ∈ asks w0 m := by
  have hjm : j ≤ m := by
    have := h.sub.count_le 0
    rw [hj 0 (by decide), h0 0 (by decide)] at this; exact this
  unfold asks
  rw [List.mem_flatMap]
  refine ⟨j, List.mem_range.mpr (by omega), ?_⟩
  rw [List.mem_flatMap]
  refine ⟨w, ?_, ?_⟩
  · have := subs_mem h.sub h.cnt hs
    rwa [hj 0 (by decide), hj 1 (by decide), hj 2 (by decide), hj 3 (by decide)] at this
  · rw [List.mem_flatMap]
    refine ⟨l, List.mem_range.mpr hl, List.mem_map.mpr ⟨n - 1, List.mem_range.mpr (by omega), ?_⟩⟩
    rw [show n - 1 + 1 = n by omega]

/-- no more questions than that -/
theorem asks_few {w0 : List Nat} {m : Nat} (h0 : OkW m w0) (hs : Signs w0) (hm : m ≤ 6) {ks : List (List Nat × Nat × Nat)} (hn : ks.Nodup)
    (h : ∀ w l n, (w, l, n) ∈ ks → SubO w w0 ∧ (∃ j, OkW j w) ∧ l < 4 ∧ 1 ≤ n ∧ n ≤ 6) : ks.length < 2 ^ 24 := by
  refine Nat.lt_of_le_of_lt (nd_len hn fun x hx => ?_) (asks_len h0 hs hm)
  obtain ⟨w, l, n⟩ := x
  obtain ⟨h1, ⟨j, hj⟩, h2, h3, h4⟩ := h w l n hx
  exact mem_asks hs h0 h1 hj h2 h3 h4

/-! ### the orders of a table -/
theorem SeatsOk.signs {m : Nat} {g : Game} {seats : List (Nat × Nat)} (S : SeatsOk m g seats) : Signs (orderP seats g.trump) := fun x hx => by
  unfold orderP at hx
  obtain ⟨c, hc, rfl⟩ := List.mem_map.mp hx
  by_cases e : c = 255
  · rw [(S.sign4 hc).mpr e]; exact Nat.le_refl 4
  · obtain ⟨s, hs⟩ := (S.memP e).mp hc
    rw [S.sign hs]
    have := S.seat_lt hs; omega

theorem byPlace_sub {I I' : Nat → List Nat} (h : ∀ s, (I s).Sublist (I' s)) (t : Nat) : ∀ L : List Nat, (byPlace I L t).Sublist (byPlace I' L t)
  | [] => by unfold byPlace; rw [List.flatMap_nil, List.flatMap_nil]; exact h t
  | s :: L => by
    have ih := byPlace_sub h t L
    unfold byPlace at ih ⊢
    rw [List.flatMap_cons, List.flatMap_cons, List.append_assoc (I s ++ [255]), List.append_assoc (I' s ++ [255])]
    exact ((h s).append (List.Sublist.refl _)).append ih

theorem SeatsOk.subO {m m' : Nat} {g g' : Game} {seats seats' : List (Nat × Nat)} (S : SeatsOk m g seats) (S' : SeatsOk m' g' seats') (ht : g'.trump = g.trump) (hsub : ∀ p, p ∈ seats' → p ∈ seats) :
    SubO (orderP seats' g'.trump) (orderP seats g.trump) := by
  refine ⟨?_, S'.tS.trans (by rw [ht]; exact S.tS.symm)⟩
  have e : orderP seats' g'.trump = (cardsP seats' g'.trump).map (signOf seats) := by
    unfold orderP
    refine List.map_congr_left fun c hc => ?_
    by_cases e : c = 255
    · unfold signOf; rw [if_pos e, if_pos e]
    · obtain ⟨s, hs⟩ := (S'.memP e).mp hc
      rw [S'.sign hs, S.sign (hsub _ hs)]
  rw [e]
  unfold orderP
  refine List.Sublist.map _ ?_
  unfold cardsP
  rw [ht]
  refine byPlace_sub (fun s => ?_) _ _
  unfold inSuit
  have : (List.range' (s * 13) 13).filter (keyIn seats') = ((List.range' (s * 13) 13).filter (keyIn seats)).filter (keyIn seats') := by
    rw [List.filter_filter]
    refine List.filter_congr fun c _ => ?_
    cases h : keyIn seats' c with
    | false => rfl
    | true =>
      obtain ⟨s', h'⟩ := keyIn_iff.mp h
      rw [keyIn_iff.mpr ⟨s', hsub _ h'⟩]; rfl
  rw [this]
  exact List.filter_sublist
end LT

end
section
set_option autoImplicit false
set_option linter.all false
/-! What is due, by the deal. -/
namespace LT
open Sy12 (Game suit)
open Sy12Neutral (nats cardsOf playedOf)

def DealOk (k t f : Int) (cs : List Int) : Prop := (1 ≤ k ∧ k ≤ 6) ∧ (0 ≤ t ∧ t ≤ 4) ∧ (0 ≤ f ∧ f < 4) ∧ (∀ c ∈ cs, 0 ≤ c ∧ c < 52) ∧ cs.Nodup

theorem nats_nodup {cs : List Int} (h0 : ∀ c ∈ cs, 0 ≤ c) : (nats cs).Nodup ↔ cs.Nodup := by
  unfold nats
  rw [List.nodup_iff_pairwise_ne, List.nodup_iff_pairwise_ne, List.pairwise_map]
  constructor
  · intro h
    exact h.imp fun {a b} hab z => hab (by rw [z])
  · intro h
    refine List.Pairwise.imp_of_mem (fun {a b} ha hb hab z => hab ?_) h
    have := h0 a ha
    have := h0 b hb
    omega
theorem nats_lt {cs : List Int} (h0 : ∀ c ∈ cs, 0 ≤ c) : (nats cs).all (fun c => decide (c < 52)) = true ↔ ∀ c ∈ cs, 0 ≤ c ∧ c < 52 := by
  unfold nats
  rw [List.all_eq_true]
  constructor
  · intro h c hc
    have := h c.toNat (List.mem_map.mpr ⟨c, hc, rfl⟩)
    rw [decide_eq_true_iff] at this
    have := h0 c hc
    omega
  · intro h x hx
    obtain ⟨c, hc, rfl⟩ := List.mem_map.mp hx
    have := h c hc
    rw [decide_eq_true_iff]
    omega

theorem gameOf_some {k t f : Int} {cs : List Int} (h : DealOk k t f cs) : Sy12.gameOf (cardsOf k cs) k t f = some (dealG (nats cs) k.toNat t.toNat f.toNat) := by
  obtain ⟨h1, h2, h3, h4, h5⟩ := h
  have h0 : ∀ c ∈ cs, 0 ≤ c := fun c hc => (h4 c hc).1
  unfold cardsOf
  rw [if_pos h1]
  unfold Sy12.gameOf
  show (if (Sy12.within t 0 4 && Sy12.within f 0 3 && (nats cs).all (fun c => decide (c < 52)) && Sy12.distinct (nats cs)) = true then _ else _) = _
  have a1 : Sy12.within t 0 4 = true := by unfold Sy12.within; rw [decide_eq_true h2.1, decide_eq_true h2.2]; rfl
  have a2 : Sy12.within f 0 3 = true := by unfold Sy12.within; rw [decide_eq_true h3.1, decide_eq_true (show f ≤ 3 by omega)]; rfl
  rw [a1, a2, (nats_lt h0).mpr h4, distinct_iff.mpr ((nats_nodup h0).mpr h5)]
  rfl
theorem gameOf_none {k t f : Int} {cs : List Int} (h0 : ∀ c ∈ cs, 0 ≤ c) (h : ¬ DealOk k t f cs) : Sy12.gameOf (cardsOf k cs) k t f = none := by
  unfold cardsOf
  by_cases h1 : 1 ≤ k ∧ k ≤ 6
  · rw [if_pos h1]
    unfold Sy12.gameOf
    show (if (Sy12.within t 0 4 && Sy12.within f 0 3 && (nats cs).all (fun c => decide (c < 52)) && Sy12.distinct (nats cs)) = true then _ else _) = _
    rw [if_neg]
    intro z
    rw [Bool.and_eq_true, Bool.and_eq_true, Bool.and_eq_true] at z
    obtain ⟨⟨⟨z1, z2⟩, z3⟩, z4⟩ := z
    unfold Sy12.within at z1 z2
    rw [Bool.and_eq_true, decide_eq_true_iff, decide_eq_true_iff] at z1 z2
    exact h ⟨h1, z1, ⟨z2.1, by omega⟩, (nats_lt h0).mp z3, (nats_nodup h0).mp (distinct_iff.mp z4)⟩
  · rw [if_neg h1]; rfl

theorem deal_seats {k t f : Int} {cs : List Int} (h : DealOk k t f cs) (hl : cs.length = 4 * k.toNat) : SeatsOk k.toNat (dealG (nats cs) k.toNat t.toNat f.toNat) (dealS (nats cs) k.toNat) := by
  obtain ⟨h1, h2, h3, h4, h5⟩ := h
  have h0 : ∀ c ∈ cs, 0 ≤ c := fun c hc => (h4 c hc).1
  refine deal_ok (by omega) (by omega) (by omega) (by omega) (by unfold nats; rw [List.length_map]; exact hl) (fun c hc => ?_) ((nats_nodup h0).mpr h5)
  have := List.all_eq_true.mp ((nats_lt h0).mpr h4) c hc
  exact of_decide_eq_true this

def told (r : Sy12.Ans) : List Int := r.code :: r.out.map fun (x : Nat) => (x : Int)
def ansB : Option Game → Sy12.Ans
  | some g => Sy12.only g.outcome
  | none => Sy12.only (-2)
def ansL : Option Game → Sy12.Ans
  | some g => ⟨g.outcome, Sy12.line g.left g⟩
  | none => Sy12.only (-2)
def ansA1 : Option (Game × Nat) → Sy12.Ans
  | some x => ⟨x.1.outcome, Sy12.padded 6 (Sy12.sorted x.1.good)⟩
  | none => Sy12.only (-1)
def ansT1 : Option (Game × Nat) → Sy12.Ans
  | some x => ⟨x.2, [x.1.turn]⟩
  | none => Sy12.only (-1)
def ansA : Option Game → Option (List Nat) → Sy12.Ans
  | some g, some l => ansA1 (Sy12.after g l)
  | _, _ => Sy12.only (-2)
def ansT : Option Game → Option (List Nat) → Sy12.Ans
  | some g, some l => ansT1 (Sy12.after g l)
  | _, _ => Sy12.only (-2)
theorem best_is (k t f : Int) (cs : List Int) : PySy12.best k t f cs = told (ansB (Sy12.gameOf (cardsOf k cs) k t f)) := by
  show told (Sy12.spec (.best (cardsOf k cs) k t f)) = _
  unfold Sy12.spec
  cases h : Sy12.gameOf (cardsOf k cs) k t f <;> simp only [h] <;> rfl
theorem line_is (k t f : Int) (cs : List Int) : PySy12.line k t f cs = told (ansL (Sy12.gameOf (cardsOf k cs) k t f)) := by
  show told (Sy12.spec (.line (cardsOf k cs) k t f)) = _
  unfold Sy12.spec
  cases h : Sy12.gameOf (cardsOf k cs) k t f <;> simp only [h] <;> rfl
theorem taken_is (k t f : Int) (cs ps : List Int) : PySy12.taken k t f cs ps = told (ansT (Sy12.gameOf (cardsOf k cs) k t f) (playedOf k ps)) := by
  show told (Sy12.spec (.taken (cardsOf k cs) k t f (playedOf k ps))) = _
  unfold Sy12.spec
  cases h : Sy12.gameOf (cardsOf k cs) k t f with
  | none => simp only [h]; cases playedOf k ps <;> rfl
  | some g =>
    cases h2 : playedOf k ps with
    | none => simp only [h, h2]; rfl
    | some l =>
      simp only [h, h2]
      show told _ = told (ansT1 (Sy12.after g l))
      cases h3 : Sy12.after g l <;> simp only [h3] <;> rfl
theorem after_is (k t f : Int) (cs ps : List Int) : PySy12.after k t f cs ps = told (ansA (Sy12.gameOf (cardsOf k cs) k t f) (playedOf k ps)) := by
  show told (Sy12.spec (.after (cardsOf k cs) k t f (playedOf k ps))) = _
  unfold Sy12.spec
  cases h : Sy12.gameOf (cardsOf k cs) k t f with
  | none => simp only [h]; cases playedOf k ps <;> rfl
  | some g =>
    cases h2 : playedOf k ps with
    | none => simp only [h, h2]; rfl
    | some l =>
      simp only [h, h2]
      show told _ = told (ansA1 (Sy12.after g l))
      cases h3 : Sy12.after g l <;> simp only [h3] <;> rfl
theorem played_some {k : Int} {ps : List Int} (h : (ps.length : Int) ≤ 4 * k) : playedOf k ps = some (nats ps) := by unfold playedOf; rw [if_pos h]
theorem played_none {k : Int} {ps : List Int} (h : ¬ (ps.length : Int) ≤ 4 * k) : playedOf k ps = none := by unfold playedOf; rw [if_neg h]

theorem best_no {k t f : Int} {cs : List Int} (h0 : ∀ c ∈ cs, 0 ≤ c) (h : ¬ DealOk k t f cs) : PySy12.best k t f cs = [-2] := by
  rw [best_is, gameOf_none h0 h]; rfl
theorem best_ok {k t f : Int} {cs : List Int} (h : DealOk k t f cs) : PySy12.best k t f cs = [((dealG (nats cs) k.toNat t.toNat f.toNat).outcome : Int)] := by
  rw [best_is, gameOf_some h]; rfl
theorem line_no {k t f : Int} {cs : List Int} (h0 : ∀ c ∈ cs, 0 ≤ c) (h : ¬ DealOk k t f cs) : PySy12.line k t f cs = [-2] := by
  rw [line_is, gameOf_none h0 h]; rfl
theorem line_ok {k t f : Int} {cs : List Int} (h : DealOk k t f cs) : PySy12.line k t f cs = ((dealG (nats cs) k.toNat t.toNat f.toNat).outcome : Int) :: (Sy12.line (dealG (nats cs) k.toNat t.toNat f.toNat).left (dealG (nats cs) k.toNat t.toNat f.toNat)).map (fun (x : Nat) => (x : Int)) := by
  rw [line_is, gameOf_some h]; rfl
theorem taken_no {k t f : Int} {cs ps : List Int} (h0 : ∀ c ∈ cs, 0 ≤ c) (h : ¬ (DealOk k t f cs ∧ (ps.length : Int) ≤ 4 * k)) : PySy12.taken k t f cs ps = [-2] := by
  rw [taken_is]
  by_cases hd : DealOk k t f cs
  · rw [played_none fun z => h ⟨hd, z⟩]
    cases Sy12.gameOf (cardsOf k cs) k t f <;> rfl
  · rw [gameOf_none h0 hd]; cases playedOf k ps <;> rfl
theorem taken_bad {k t f : Int} {cs ps : List Int} (h : DealOk k t f cs) (hp : (ps.length : Int) ≤ 4 * k) (ha : Sy12.after (dealG (nats cs) k.toNat t.toNat f.toNat) (nats ps) = none) : PySy12.taken k t f cs ps = [-1] := by
  rw [taken_is, gameOf_some h, played_some hp]
  show told (ansT1 _) = _
  rw [ha]; rfl
theorem taken_ok {k t f : Int} {cs ps : List Int} {g : Game} {n : Nat} (h : DealOk k t f cs) (hp : (ps.length : Int) ≤ 4 * k) (ha : Sy12.after (dealG (nats cs) k.toNat t.toNat f.toNat) (nats ps) = some (g, n)) : PySy12.taken k t f cs ps = [(n : Int), (g.turn : Int)] := by
  rw [taken_is, gameOf_some h, played_some hp]
  show told (ansT1 _) = _
  rw [ha]; rfl
theorem after_no {k t f : Int} {cs ps : List Int} (h0 : ∀ c ∈ cs, 0 ≤ c) (h : ¬ (DealOk k t f cs ∧ (ps.length : Int) ≤ 4 * k)) : PySy12.after k t f cs ps = [-2] := by
  rw [after_is]
  by_cases hd : DealOk k t f cs
  · rw [played_none fun z => h ⟨hd, z⟩]
    cases Sy12.gameOf (cardsOf k cs) k t f <;> rfl
  · rw [gameOf_none h0 hd]; cases playedOf k ps <;> rfl
theorem after_bad {k t f : Int} {cs ps : List Int} (h : DealOk k t f cs) (hp : (ps.length : Int) ≤ 4 * k) (ha : Sy12.after (dealG (nats cs) k.toNat t.toNat f.toNat) (nats ps) = none) : PySy12.after k t f cs ps = [-1] := by
  rw [after_is, gameOf_some h, played_some hp]
  show told (ansA1 _) = _
  rw [ha]; rfl
theorem after_ok {k t f : Int} {cs ps : List Int} {g : Game} {n : Nat} (h : DealOk k t f cs) (hp : (ps.length : Int) ≤ 4 * k) (ha : Sy12.after (dealG (nats cs) k.toNat t.toNat f.toNat) (nats ps) = some (g, n)) :
    PySy12.after k t f cs ps = (g.outcome : Int) :: (Sy12.padded 6 (Sy12.sorted g.good)).map (fun (x : Nat) => (x : Int)) := by
  rw [after_is, gameOf_some h, played_some hp]
  show told (ansA1 _) = _
  rw [ha]; rfl

/-! ### cards played one by one -/
/-- what is played so far leads from g to g', with n tricks -/
def Led (g : Game) (l : List Nat) (g' : Game) (n : Nat) : Prop := ∀ r, Sy12.after g (l ++ r) = (Sy12.after g' r).map fun x => (x.1, n + x.2)
theorem led_nil (g : Game) : Led g [] g 0 := fun r => by
  rw [List.nil_append]
  cases Sy12.after g r with
  | none => rfl
  | some x => show some x = some (x.1, 0 + x.2); rw [Nat.zero_add]
theorem Led.step {g g' : Game} {l : List Nat} {n c : Nat} (h : Led g l g' n) (hc : c ∈ g'.may) : Led g (l ++ [c]) (g'.play c).1 (n + (g'.play c).2) := fun r => by
  rw [List.append_assoc, h]
  show Option.map _ (if g'.may.contains c = true then _ else _) = _
  rw [if_pos (List.contains_iff_mem.mpr hc), Option.map_map]
  show Option.map _ (Sy12.after (g'.play c).1 r) = _
  refine congrArg (fun q => Option.map q _) ?_
  funext x
  show (x.1, n + ((g'.play c).2 + x.2)) = (x.1, n + (g'.play c).2 + x.2)
  rw [Nat.add_assoc]
theorem Led.bad {g g' : Game} {l r : List Nat} {n c : Nat} (h : Led g l g' n) (hc : c ∉ g'.may) : Sy12.after g (l ++ c :: r) = none := by
  rw [h]
  show Option.map _ (if g'.may.contains c = true then _ else _) = _
  rw [if_neg (fun z => hc (List.contains_iff_mem.mp z))]; rfl
theorem Led.done {g g' : Game} {l : List Nat} {n : Nat} (h : Led g l g' n) : Sy12.after g l = some (g', n) := by
  have := h []
  rw [List.append_nil] at this
  rw [this]
  show some (g', n + 0) = _
  rw [Nat.add_zero]
end LT

end
section
namespace PT
open PySem PySem.Spec PyProof.Rows L2
/-! ### the text by places -/
def top (i : Nat) : Stmt := PySem.Challenge.pw_lasttricks_s04_taken.main.body.getD i (.Pass ⟨0, 0, 0, 0⟩)
abbrev sInit : Stmt := inClass (top 7) 0
abbrev sTurn : Stmt := inClass (top 7) 1
abbrev sAllowed : Stmt := inClass (top 7) 2
abbrev sPlay : Stmt := inClass (top 7) 3
abbrev sEnd : Stmt := inClass (top 7) 4
abbrev sTaken : Stmt := top 8
abbrev sDeal : Stmt := top 9
abbrev sAll : Stmt := top 10
abbrev sSuit : Stmt := top 11
abbrev sWin : Stmt := top 12
end PT

end
section
set_option Elab.async false
set_option linter.all false
set_option maxRecDepth 100000
set_option maxHeartbeats 2000000
namespace PT
open PySem PySem.Spec PyProof.Rows L2 LT
open PySem.W (Codec)
open Sy12 (Game suit)
open Sy12Neutral (nats)
/-! ### the data -/
abbrev vN (n : Nat) : V := V.int (n : Int)
def kvN (p : Nat × Nat) : Key × V := (Sum.inl (p.1 : Int), V.int (p.2 : Int))

theorem lk_eq {f : Str} {v : V} {r : List (Str × V)} : List.lookup f ((f, v) :: r) = some v := by simp [List.lookup]
theorem lk_ne {f g : Str} {v : V} {r : List (Str × V)} (h : ¬ f = g) : List.lookup f ((g, v) :: r) = List.lookup f r := by
  have : (f == g) = false := beq_eq_false_iff_ne.mpr h
  simp [List.lookup, this]
theorem lk_nil {f : Str} : List.lookup f ([] : List (Str × V)) = none := rfl
theorem pf_nil {f : Str} {v : V} : putF f v [] = [(f, v)] := rfl
theorem pf_eq {f : Str} {v x : V} {r : List (Str × V)} : putF f v ((f, x) :: r) = (f, v) :: r := by
  show (if f = f then _ else _) = _
  rw [if_pos rfl]
theorem pf_ne {f g : Str} {v x : V} {r : List (Str × V)} (h : ¬ g = f) : putF f v ((g, x) :: r) = (g, x) :: putF f v r := by
  show (if g = f then _ else _) = _
  rw [if_neg h]

def tf (tr ld : Int) (l : Addr) (wn : Int) (d : Addr) : List (Str × V) := [("trump", .int tr), ("lead", .int ld), ("trick", .ref l), ("won", .int wn), ("seat_of", .ref d)]
section
variable {tr ld wn : Int} {l d : Addr}
theorem tf_trump : (tf tr ld l wn d).lookup ("trump" : Str) = some (.int tr) := lk_eq
theorem tf_lead : (tf tr ld l wn d).lookup ("lead" : Str) = some (.int ld) := (lk_ne (by decide +kernel)).trans lk_eq
theorem tf_trick : (tf tr ld l wn d).lookup ("trick" : Str) = some (.ref l) := (lk_ne (by decide +kernel)).trans ((lk_ne (by decide +kernel)).trans lk_eq)
theorem tf_won : (tf tr ld l wn d).lookup ("won" : Str) = some (.int wn) := (lk_ne (by decide +kernel)).trans ((lk_ne (by decide +kernel)).trans ((lk_ne (by decide +kernel)).trans lk_eq))
theorem tf_seat : (tf tr ld l wn d).lookup ("seat_of" : Str) = some (.ref d) := (lk_ne (by decide +kernel)).trans ((lk_ne (by decide +kernel)).trans ((lk_ne (by decide +kernel)).trans ((lk_ne (by decide +kernel)).trans lk_eq)))
theorem tf_no {m : Str} (h1 : ¬ m = "trump") (h2 : ¬ m = "lead") (h3 : ¬ m = "trick") (h4 : ¬ m = "won") (h5 : ¬ m = "seat_of") : (tf tr ld l wn d).lookup m = none :=
  (lk_ne h1).trans ((lk_ne h2).trans ((lk_ne h3).trans ((lk_ne h4).trans ((lk_ne h5).trans lk_nil))))
theorem tf_setLead {z : Int} : putF "lead" (.int z) (tf tr ld l wn d) = tf tr z l wn d := by
  unfold tf
  rw [pf_ne (by decide +kernel), pf_eq]
theorem tf_setTrick {z : Addr} : putF "trick" (.ref z) (tf tr ld l wn d) = tf tr ld z wn d := by
  unfold tf
  rw [pf_ne (by decide +kernel), pf_ne (by decide +kernel), pf_eq]
theorem tf_setWon {z : Int} : putF "won" (.int z) (tf tr ld l wn d) = tf tr ld l z d := by
  unfold tf
  rw [pf_ne (by decide +kernel), pf_ne (by decide +kernel), pf_ne (by decide +kernel), pf_eq]
end

/-- a table stands at x, its trick at l, its dict at d -/
structure TabAt (C : Addr) (H : Hp) (x l d : Addr) (tr ld wn : Nat) (tk : List Nat) (seats : List (Nat × Nat)) : Prop where
  ins : ∃ dx, H x = some (.ins C dx (tf tr ld l wn d))
  trk : H l = some (.lst (tk.map vN))
  dct : H d = some (.dK (seats.map kvN))
section
variable {C : Addr} {H H' : Hp} {x l d : Addr} {tr ld wn : Nat} {tk : List Nat} {seats : List (Nat × Nat)}
theorem TabAt.same (T : TabAt C H x l d tr ld wn tk seats) (s : Same H H') : TabAt C H' x l d tr ld wn tk seats := by
  obtain ⟨⟨dx, h1⟩, h2, h3⟩ := T
  exact ⟨⟨dx, s _ _ h1⟩, s _ _ h2, s _ _ h3⟩
theorem TabAt.xl (T : TabAt C H x l d tr ld wn tk seats) : x ≠ l := by
  obtain ⟨⟨dx, h1⟩, h2, h3⟩ := T
  exact ne_of h1 h2 (by intro z; cases z)
theorem TabAt.xd (T : TabAt C H x l d tr ld wn tk seats) : x ≠ d := by
  obtain ⟨⟨dx, h1⟩, h2, h3⟩ := T
  exact ne_of h1 h3 (by intro z; cases z)
theorem TabAt.ld_ (T : TabAt C H x l d tr ld wn tk seats) : l ≠ d := by
  obtain ⟨⟨dx, h1⟩, h2, h3⟩ := T
  exact ne_of h2 h3 (by intro z; cases z)
end
theorem same_new {H : Hp} {p : Addr} (h : H p = none) (o : HO) : Same H (upd H p o) := fun b u q => by rw [upd_ne (ne_of_none q h)]; exact q
theorem small {n : Nat} (h : n ≤ 1000) : n ≤ sizeLine := Nat.le_of_lt (small1000 h)

/-- the text's names -/
structure Txt (K : PySem.W.Frag) (mg : Str → Option Value) (C : Addr) : Prop where
  cl : Cls K C
  nTrump : NoAttr K C "trump"
  nLead : NoAttr K C "lead"
  nTrick : NoAttr K C "trick"
  nWon : NoAttr K C "won"
  nSeat : NoAttr K C "seat_of"
  mgC : mg "Table" = some (.ref C)
  gSEATS : ∃ t, mg "SEATS" = some (.int 4 t)
  gHEIGHTS : ∃ t, mg "HEIGHTS" = some (.int 13 t)
  bLen : mg "len" = none
  bMax : mg "max" = none
  bSorted : mg "sorted" = none
  bEnum : mg "enumerate" = none

/-- an attribute, in a comprehension's block: the written part named -/
theorem pe_fldB {X : Cx} {K : PySem.W.Frag} {e : Expr} {f : Str} {pos : Pos} {ta : TE} (hK : X.K = K) (he : PE X e ta) (hb : attributeBase e f X.env (eval e X.env) = eval e X.env) : PE X (.Attribute e f pos) (tFld K ta f) := by
  subst hK; exact pe_fld he hb
/-! ### the promises -/
def spSuit : Sp := fun vs H Q _ => ∃ c : Nat, vs = [vN c] ∧ Q (vN (suit c)) H
def spWin (K : PySem.W.Frag) : Sp := fun vs H Q _ => ∃ (l : Addr) (P : List Nat) (t : Nat), vs = [.ref l, vN t] ∧ SqL K H l (P.map vN) ∧ P ≠ [] ∧ P.length ≤ 4 ∧ ∀ (x : Nat) (H' : Hp), Takes t P x → Same H H' → Q (vN x) H'
def spTurn (C : Addr) : Sp := fun vs H Q _ => ∃ (x l d : Addr) (tr ld wn : Nat) (tk : List Nat) (seats : List (Nat × Nat)), vs = [.ref x] ∧ TabAt C H x l d tr ld wn tk seats ∧ Q (vN ((ld + tk.length) % 4)) H



/-! ### small things -/
theorem vN_inj {a b : Nat} (h : vN a = vN b) : a = b := by
  have : (a : Int) = (b : Int) := by injection h
  omega
theorem same_upd {H H' : Hp} {D : Addr} {o : HO} (s : Same H H') (h : H D = none) : Same H (upd H' D o) := fun b u q => by
  rw [upd_ne (ne_of_none q h)]; exact s b u q
theorem map_at {α β : Type} {f : α → β} {l : List α} {i : Nat} {x : β} (h : (l.map f)[i]? = some x) : ∃ c, l[i]? = some c ∧ x = f c := by
  rw [List.getElem?_map] at h
  cases e : l[i]? with
  | none => rw [e] at h; cases h
  | some c => rw [e] at h; exact ⟨c, rfl, (Option.some.inj h).symm⟩
theorem take_more {α : Type} {l : List α} {i : Nat} {x : α} (h : l[i]? = some x) : l.take (i + 1) = l.take i ++ [x] := by
  rw [List.take_add_one, h]; rfl
theorem filt_yes {α : Type} {f : α → V} {p : α → Bool} {l : List α} {i : Nat} {c : α} (h : l[i]? = some c) (hp : p c = true) : ((l.take i).filter p).map f ++ [f c] = ((l.take (i + 1)).filter p).map f := by
  rw [take_more h, List.filter_append, List.map_append, List.filter_cons, if_pos hp]; rfl
theorem filt_no {α : Type} {f : α → V} {p : α → Bool} {l : List α} {i : Nat} {c : α} (h : l[i]? = some c) (hp : p c = false) : ((l.take i).filter p).map f = ((l.take (i + 1)).filter p).map f := by
  rw [take_more h, List.filter_append, List.map_append, List.filter_cons, if_neg (by rw [hp]; decide)]; simp
theorem filt_all {α : Type} {f : α → V} {p : α → Bool} {l : List α} {n : Nat} (h : n = l.length) : ((l.take n).filter p).map f = (l.filter p).map f := by
  rw [h, List.take_length]
theorem filt_len {α : Type} {f : α → V} {p : α → Bool} {l : List α} {i n : Nat} (h : l.length ≤ n) : (((l.take i).filter p).map f).length ≤ n := by
  rw [List.length_map]
  exact Nat.le_trans (List.length_filter_le _ _) (by rw [List.length_take]; omega)
theorem vN_map (l : List Nat) : l.map vN = (l.map (fun n : Nat => (n : Int))).map V.int := by rw [List.map_map]; rfl
theorem dec_vN {a b : Nat} : (decide (vN a = vN b) = true) ↔ a = b := by
  rw [decide_eq_true_iff]
  exact ⟨vN_inj, fun h => by rw [h]⟩
/-- a list of Nats among the Ints, by its order -/
theorem perm_nat : ∀ {ns : List Int} {l : List Nat}, ns.Perm (l.map (fun n : Nat => (n : Int))) → ∃ L : List Nat, ns = L.map (fun n : Nat => (n : Int)) ∧ L.Perm l := fun {ns l} h => by
  refine ⟨ns.map Int.toNat, ?_, ?_⟩
  · rw [List.map_map]
    have : ns.map ((fun n : Nat => (n : Int)) ∘ Int.toNat) = ns.map id := List.map_congr_left fun x hx => by
      obtain ⟨n, _, e⟩ := List.mem_map.mp (h.mem_iff.mp hx)
      show ((x.toNat : Nat) : Int) = x
      omega
    rw [this, List.map_id]
  · have := h.map Int.toNat
    rw [List.map_map] at this
    have e : l.map (Int.toNat ∘ fun n : Nat => (n : Int)) = l.map id := List.map_congr_left fun x _ => by show ((x : Int)).toNat = x; omega
    rw [e, List.map_id] at this
    exact this
theorem rise_of {L : List Nat} (h : (L.map (fun n : Nat => (n : Int))).Pairwise (· ≤ ·)) (hn : L.Nodup) : L.Pairwise (· < ·) := by
  rw [List.pairwise_map] at h
  rw [List.nodup_iff_pairwise_ne] at hn
  exact (h.and hn).imp fun {a b} ⟨h1, h2⟩ => by omega



/-! ### the table's dict -/
theorem key_ne {a b : Nat} (h : a ≠ b) : ¬ (Sum.inl (a : Int) : Key) = Sum.inl (b : Int) := fun z => h (by have := Sum.inl.inj z; omega)
theorem valV_seats : ∀ {seats : List (Nat × Nat)} {c s : Nat}, (seats.map (·.1)).Nodup → (c, s) ∈ seats → valV (seats.map kvN) (Sum.inl (c : Int)) = some (vN s)
  | [], _, _, _, h => by cases h
  | p :: r, c, s, hn, h => by
    rw [List.map_cons, List.nodup_cons] at hn
    rcases List.mem_cons.mp h with z | z
    · rw [← z]; exact valV_pos rfl
    · have : p.1 ≠ c := fun e => hn.1 (List.mem_map.mpr ⟨(c, s), z, e.symm⟩)
      rw [List.map_cons, valV_neg (key_ne this)]
      exact valV_seats hn.2 z
theorem valV_no : ∀ {seats : List (Nat × Nat)} {c : Nat}, (∀ s, (c, s) ∉ seats) → valV (seats.map kvN) (Sum.inl (c : Int)) = none
  | [], _, _ => rfl
  | p :: r, c, h => by
    have : p.1 ≠ c := fun e => h p.2 (by rw [← e]; exact List.mem_cons_self)
    rw [List.map_cons, valV_neg (key_ne this)]
    exact valV_no fun s z => h s (List.mem_cons_of_mem _ z)
theorem dropK_seats (c : Nat) : ∀ seats : List (Nat × Nat), dropK (seats.map kvN) (Sum.inl (c : Int)) = (seats.filter fun p => p.1 != c).map kvN
  | [] => rfl
  | p :: r => by
    rw [List.map_cons]
    by_cases e : p.1 = c
    · rw [dropK_pos (by show (Sum.inl (p.1 : Int) : Key) = _; rw [e]), dropK_seats c r, List.filter_cons, if_neg (by rw [bne_iff_ne]; exact fun z => z e)]
    · rw [dropK_neg (key_ne e), dropK_seats c r, List.filter_cons, if_pos (by rw [bne_iff_ne]; exact e)]; rfl

/-- a comprehension over a locked dict's keys -/
theorem lc_keys {d : Addr} {o : Obj} {kvs : List (Key × V)} {g : TG} {tt : TT} {te : TE} {vs : List Nat} {σ : L2.St} {H1 : Hp} {D : Addr} {Qd : Hp → Prop} (Pv : Nat → Hp → Prop) (h0 : Pv 0 (upd H1 D (.lst []))) (hl : ∀ i H, i ≤ kvs.length → Pv i H → H d = some (.frz o (.dK kvs)))
    (hs : ∀ i k v H, kvs[i]? = some (k, v) → Pv i H → g (kV k) (wipe σ vs) H fun σ2 H2 => wipe σ2 vs = wipe σ vs ∧ tt σ2 H2 fun b H3 =>
      if b = true then te σ2 H3 fun y H4 => ∃ acc, H4 D = some (.lst acc) ∧ acc.length < sizeLine ∧ Pv (i + 1) (upd H4 D (.lst (acc ++ [y]))) else Pv (i + 1) H3) (hd : ∀ H, Pv kvs.length H → Qd H) :
    ∃ W : Nat → Nat → Hp → Prop, (∃ m, W 0 m (upd H1 D (.lst []))) ∧ ∀ i m H, W i m H →
      ((Itk d o kvs).stop i H ∧ Qd H) ∨ ((Itk d o kvs).go i H ∧ ∃ Nx : Hp → Prop, (∀ H', Nx H' → ∃ m', m' < m ∧ W (i + 1) m' H') ∧ ∀ x H', (Itk d o kvs).yld i H x H' → g x (wipe σ vs) H' fun σ2 H2 => wipe σ2 vs = wipe σ vs ∧ tt σ2 H2 fun b H3 =>
        if b = true then te σ2 H3 fun y H4 => ∃ acc, H4 D = some (.lst acc) ∧ acc.length < sizeLine ∧ Nx (upd H4 D (.lst (acc ++ [y]))) else Nx H3) := by
  refine ⟨fun i m H => m = kvs.length - i ∧ i ≤ kvs.length ∧ Pv i H, ⟨kvs.length, by simp, Nat.zero_le _, h0⟩, ?_⟩
  rintro i m H ⟨rfl, hi, p⟩
  have q := hl i H hi p
  by_cases hlt : i < kvs.length
  · refine .inr ⟨⟨q, hlt⟩, Pv (i + 1), fun H' p' => ⟨kvs.length - (i + 1), by omega, rfl, hlt, p'⟩, fun x H' y => ?_⟩
    obtain ⟨e, k, v, hk, ex⟩ := y
    subst e ex
    exact hs i k v _ hk p
  · have e : i = kvs.length := by omega
    subst e
    exact .inl ⟨⟨q, Nat.le_refl _⟩, hd H p⟩

/-- what may be played, the least first -/
def Allowed (g : Game) (L : List Nat) : Prop := L.Pairwise (· < ·) ∧ ∀ c, c ∈ L ↔ c ∈ g.may
theorem may_hand {g : Game} (h : g.trick = []) (c : Nat) : c ∈ g.may ↔ c ∈ g.hand g.turn := by
  rw [may_iff]
  exact ⟨fun z => z.1, fun z => ⟨z, fun l hl => by have hl : g.trick.head? = some l := hl; rw [h] at hl; cases hl⟩⟩
theorem may_follow {g : Game} {c0 : Nat} {r : List Nat} (h : g.trick = c0 :: r) (c : Nat) : c ∈ g.may ↔ c ∈ g.hand g.turn ∧ (suit c = suit c0 ∨ ∀ x ∈ g.hand g.turn, suit x ≠ suit c0) := by
  rw [may_iff]
  constructor
  · exact fun z => ⟨z.1, z.2 c0 (by show g.trick.head? = some c0; rw [h]; rfl)⟩
  · rintro ⟨z1, z2⟩
    refine ⟨z1, fun l hl => ?_⟩
    have hl : g.trick.head? = some l := hl
    rw [h] at hl
    have : c0 = l := Option.some.inj hl
    subst this; exact z2

def spAllowed (C : Addr) : Sp := fun vs H Q _ => ∃ (x l d : Addr) (wn m : Nat) (g : Game) (seats : List (Nat × Nat)), vs = [.ref x] ∧ TabAt C H x l d g.trump g.first wn g.trick seats ∧ SeatsOk m g seats ∧
  ∀ (L : List Nat) (p : Addr) (H' : Hp), Allowed g L → Same H H' → H' p = some (.lst (L.map vN)) → Q (.ref p) H'




/-- all but the table's three objects is as it was -/
def Kept (H H' : Hp) (x l d : Addr) : Prop := ∀ b o, H b = some o → b ≠ x → b ≠ l → b ≠ d → H' b = some o
theorem Kept.of_same {H H' : Hp} {x l d : Addr} (s : Same H H') : Kept H H' x l d := fun b o e _ _ _ => s b o e
theorem Kept.trans {H H1 H2 : Hp} {x l l1 d : Addr} (a : Kept H H1 x l d) (b : Kept H1 H2 x l1 d) (hl : l1 = l ∨ H l1 = none) : Kept H H2 x l d := fun c o e h1 h2 h3 => by
  refine b c o (a c o e h1 h2 h3) h1 ?_ h3
  rcases hl with z | z
  · rw [z]; exact h2
  · exact ne_of_none e z

/-- what a card played leaves -/
def spPlayed (C : Addr) (H : Hp) (Q : VK) (x l d : Addr) (wn : Nat) (g : Game) (c : Nat) (seats : List (Nat × Nat)) (m : Nat) : Prop :=
  ∀ (H' : Hp) (l' : Addr) (seats' : List (Nat × Nat)), TabAt C H' x l' d (g.play c).1.trump (g.play c).1.first (wn + (g.play c).2) (g.play c).1.trick seats' → SeatsOk (if g.trick.length + 1 = 4 then m - 1 else m) (g.play c).1 seats' →
    (∀ p, p ∈ seats' → p ∈ seats) → Kept H H' x l d → (l' = l ∨ H l' = none) → Q .non H'
def spEnd (C : Addr) : Sp := fun vs H Q _ => ∃ (x l d : Addr) (wn m c : Nat) (g : Game) (seats : List (Nat × Nat)), vs = [.ref x] ∧ TabAt C H x l d g.trump g.first wn (g.trick ++ [c]) seats ∧ SeatsOk m g seats ∧ c ∈ g.may ∧ g.trick.length = 3 ∧
  spPlayed C H Q x l d wn g c seats m
def spPlay (C : Addr) : Sp := fun vs H Q _ => ∃ (x l d : Addr) (wn m c : Nat) (g : Game) (seats : List (Nat × Nat)), vs = [.ref x, vN c] ∧ TabAt C H x l d g.trump g.first wn g.trick seats ∧ SeatsOk m g seats ∧ c ∈ g.may ∧
  spPlayed C H Q x l d wn g c seats m

theorem filter_filter_ne (P : List Nat) (c : Nat) (seats : List (Nat × Nat)) : (seats.filter fun p => !P.contains p.1).filter (fun p => p.1 != c) = seats.filter fun p => !(P ++ [c]).contains p.1 := by
  rw [List.filter_filter]
  refine List.filter_congr fun p _ => ?_
  have : (P ++ [c]).contains p.1 = (P.contains p.1 || p.1 == c) := by
    rw [Bool.eq_iff_iff, Bool.or_eq_true, List.contains_iff_mem, List.contains_iff_mem, List.mem_append, List.mem_singleton, beq_iff_eq]
  rw [this, Bool.not_or, Bool.and_comm]; rfl

theorem play_end {g : Game} {c : Nat} (hl : g.trick.length = 3) : (g.play c).1.trick = [] ∧ (g.play c).2 = if (g.play c).1.first % 2 = 0 then 1 else 0 := by
  have e : (g.trick ++ [c]).length = 4 := by rw [List.length_append, hl]; rfl
  unfold Game.play
  show (if (g.trick ++ [c]).length = 4 then _ else _ : Game × Nat).1.trick = [] ∧ (if (g.trick ++ [c]).length = 4 then _ else _ : Game × Nat).2 = if (if (g.trick ++ [c]).length = 4 then _ else _ : Game × Nat).1.first % 2 = 0 then 1 else 0
  rw [if_pos e]
  refine ⟨rfl, ?_⟩
  show (if Sy12.side _ = true then 1 else 0) = if _ % 2 = 0 then 1 else 0
  unfold Sy12.side
  by_cases q : (g.first + Sy12.taker g.trump (g.trick ++ [c])) % 4 % 2 = 0
  · rw [if_pos (by rw [beq_iff_eq]; exact q)]; exact (if_pos q).symm
  · rw [if_neg (by rw [beq_iff_eq]; exact q)]; exact (if_neg q).symm
theorem play_mid {g : Game} {c : Nat} (hl : ¬ g.trick.length + 1 = 4) : (g.play c).1.trick = g.trick ++ [c] ∧ (g.play c).1.first = g.first ∧ (g.play c).2 = 0 := by
  have e : ¬ (g.trick ++ [c]).length = 4 := by rw [List.length_append]; exact hl
  unfold Game.play
  show (if (g.trick ++ [c]).length = 4 then _ else _ : Game × Nat).1.trick = _ ∧ (if (g.trick ++ [c]).length = 4 then _ else _ : Game × Nat).1.first = _ ∧ (if (g.trick ++ [c]).length = 4 then _ else _ : Game × Nat).2 = 0
  rw [if_neg e]
  exact ⟨rfl, rfl, rfl⟩




/-! ### sets -/
theorem firstMet_nodup (ns : List Int) : ∀ i, i ≤ ns.length → ((firstMet (fun i => ns.getD i 0) i).length = i ↔ (ns.take i).Nodup)
  | 0, _ => by simp [firstMet_zero]
  | i + 1, h => by
    have ih := firstMet_nodup ns i (by omega)
    have hx : ns[i]? = some ns[i] := List.getElem?_eq_getElem (by omega)
    have hle := firstMet_length_le (fun i => ns.getD i 0) i
    have hval : ns.getD i 0 = ns[i] := by rw [List.getD_eq_getElem?_getD, hx]; rfl
    have hr : (List.range i).map (fun i => ns.getD i 0) = ns.take i := by
      refine List.ext_getElem? fun j => ?_
      rw [List.getElem?_map, List.getElem?_take]
      by_cases hj : j < i
      · rw [List.getElem?_range hj, if_pos hj, List.getElem?_eq_getElem (show j < ns.length by omega)]
        show some (ns.getD j 0) = _
        rw [List.getD_eq_getElem?_getD, List.getElem?_eq_getElem (show j < ns.length by omega)]; rfl
      · rw [List.getElem?_eq_none (by rw [List.length_range]; omega), if_neg hj]; rfl
    have hany := firstMet_any (fun i => ns.getD i 0) i (ns.getD i 0)
    rw [hr, hval] at hany
    have htk : ns.take (i + 1) = ns.take i ++ [ns[i]] := take_more hx
    have hnd : (ns.take (i + 1)).Nodup ↔ (ns.take i).Nodup ∧ ns[i] ∉ ns.take i := by
      rw [htk, List.nodup_append]
      constructor
      · rintro ⟨h1, _, h3⟩
        exact ⟨h1, fun z => h3 _ z _ (by simp) rfl⟩
      · rintro ⟨h1, h2⟩
        exact ⟨h1, by simp, fun a ha b hb z => h2 (by have : b = ns[i] := by simpa using hb
                                                      rw [← this, ← z]; exact ha)⟩
    rw [hnd, firstMet_succ, step_length, hval, hany]
    by_cases e : ns[i] ∈ ns.take i
    · have : ((ns.take i).any fun x => x == ns[i]) = true := List.any_eq_true.mpr ⟨_, e, by rw [beq_iff_eq]⟩
      rw [if_pos this]
      exact ⟨fun z => by omega, fun z => absurd e z.2⟩
    · have : ¬ ((ns.take i).any fun x => x == ns[i]) = true := fun z => by
        obtain ⟨y, hy, ey⟩ := List.any_eq_true.mp z
        rw [beq_iff_eq] at ey
        exact e (ey ▸ hy)
      rw [if_neg this]
      constructor
      · intro z; exact ⟨ih.mp (by omega), e⟩
      · intro z; have := ih.mpr z.1; omega
section
variable {X : Cx}
theorem call_setI (hc : X.calm = true) : CallR X (.type "set") (fun xs H Q => ∃ (a : Addr) (ns : List Int), xs = [.ref a] ∧ SqL X.K H a (ns.map V.int) ∧ ns.length + 1 < scanBound ∧
    ∀ S p, H p = none → Q (.ref p) (upd H p (.set S (firstMet (fun i => ns.getD i 0) ns.length).length))) := by
  intro pins s σ H xs us Q I r h
  obtain ⟨a, ns, rfl, hs, hb, q⟩ := h
  obtain ⟨its, rv, hl, _⟩ := I.list hs
  rw [Vals.ref1 r]
  have hi := rv.ints
  have hlen : its.length = ns.length := hi.length
  have hsz : its.toArray.size = ns.length := by rw [List.size_toArray]; exact hlen
  refine PySem.call_set_list (I.ok.hd hc) hl.isList (by simpa using hi) (by rw [hsz]; exact hb) fun h' tk hS hk => ?_
  rw [hsz] at hS
  exact ⟨.ref s.heap.objs.size, upd H s.heap.objs.size (.set _ _), I.laid (t' := tk) (fun b u e => hk b u (Heap.lt_size e) e) (Nat.le_refl _) hS, rfl, q _ _ (I.hok.fresh (Nat.le_refl _))⟩
theorem call_lenSet : CallR X (.builtin "len") (fun xs H Q => ∃ (a : Addr) (S : Int → Bool) (n : Nat), xs = [.ref a] ∧ H a = some (.set S n) ∧ (n : Int) < 2 ^ 63 ∧ Q (.int n) H) := by
  intro pins s σ H xs us Q I r h
  obtain ⟨a, S, n, rfl, hs, hb, q⟩ := h
  rw [Vals.ref1 r]
  have hS : s.heap.SetOf (intKind X.prog X.w) a S n := I.hok a _ hs
  obtain ⟨o, ho, hex, es, ep, t, hd, _, _, hn, hf⟩ := hS.objOf
  subst hn
  exact call_len_set ho hex hd hf hb ⟨.int _, H, I.tok _, ⟨_, rfl⟩, q⟩
end

/-- the pairs of enumerate, in a loop that leaves the list as it is -/
theorem for_enum {K : PySem.W.Frag} {a : Addr} {xs : List V} {g : TG} {tb : TS} {D : Ends} {σ : L2.St} {H : Hp} (Pv : Nat → L2.St → Hp → Prop) (h0 : Pv 0 σ H) (hl : ∀ i σ H, i ≤ xs.length → Pv i σ H → SqL K H a xs)
    (hs : ∀ i x σ H T, xs[i]? = some x → Pv i σ H → H T = none → g (.ref T) σ (upd H T (.tup [.int (i : Nat), x])) fun σ2 H2 => tb { D with nx := Pv (i + 1), ct := Pv (i + 1), bk := D.nx } σ2 H2) (hd : ∀ σ H, Pv xs.length σ H → D.nx σ H) :
    ∃ W : Nat → Nat → L2.St → Hp → Prop, (∃ m, W 0 m σ H) ∧ ∀ i m σ H, W i m σ H →
      ((Ite K a).stop i H ∧ D.nx σ H) ∨ ((Ite K a).go i H ∧ ∃ N : L2.St → Hp → Prop, (∀ σ' H', N σ' H' → ∃ m', m' < m ∧ W (i + 1) m' σ' H') ∧ ∀ x H', (Ite K a).yld i H x H' → g x σ H' fun σ2 H2 => tb { D with nx := N, ct := N, bk := D.nx } σ2 H2) := by
  refine ⟨fun i m σ H => m = xs.length - i ∧ i ≤ xs.length ∧ Pv i σ H, ⟨xs.length, by simp, Nat.zero_le _, h0⟩, ?_⟩
  rintro i m σ H ⟨rfl, hi, p⟩
  have q := hl i σ H hi p
  by_cases hlt : i < xs.length
  · refine .inr ⟨⟨xs, xs[i], q, by simp [hlt]⟩, Pv (i + 1), fun σ' H' p' => ⟨xs.length - (i + 1), by omega, rfl, hlt, p'⟩, fun x H' y => ?_⟩
    obtain ⟨T, z, e1, hT, e2, y⟩ := y
    subst e1 e2
    exact hs i z σ _ T (y xs q) p hT
  · have e : i = xs.length := by omega
    subst e
    exact .inl ⟨⟨xs, q, Nat.le_refl _⟩, hd σ H p⟩

/-- a list that was handed in -/
def FzL (K : PySem.W.Frag) (H : Hp) (a : Addr) (xs : List V) : Prop :=
  (∃ o, H a = some (.frz o (.lst xs))) ∨ ∃ (o : Obj) (its : Array Value) (n : Nat), K.lookup a = some o ∧ o.cls = .type "list" ∧ o.dict = none ∧ o.data = .seq its n ∧ its.size ≤ sizeLine ∧ Vals xs its.toList
theorem FzL.sq {K : PySem.W.Frag} {H : Hp} {a : Addr} {xs : List V} (h : FzL K H a xs) : SqL K H a xs := by
  rcases h with ⟨o, h⟩ | h
  · exact .inl (.inr ⟨o, h⟩)
  · exact .inr h
theorem FzL.of {K : PySem.W.Frag} {H : Hp} {a : Addr} {xs : List V} (hO : OnlyF H) (h : SqL K H a xs) : FzL K H a xs := by
  rcases h with (h | h) | h
  · rcases hO a with z | ⟨o, u, z⟩
    · rw [h] at z; cases z
    · rw [h] at z; cases z
  · exact .inl h
  · exact .inr h
theorem FzL.same {K : PySem.W.Frag} {H H' : Hp} {a : Addr} {xs : List V} (h : FzL K H a xs) (s : Same H H') : FzL K H' a xs := by
  rcases h with ⟨o, h⟩ | h
  · exact .inl ⟨o, s _ _ h⟩
  · exact .inr h
theorem FzL.kept {K : PySem.W.Frag} {H H' : Hp} {a : Addr} {xs : List V} {C x l d : Addr} {tr ld wn : Nat} {tk : List Nat} {seats : List (Nat × Nat)} (h : FzL K H a xs) (tb : TabAt C H x l d tr ld wn tk seats) (s : Kept H H' x l d) : FzL K H' a xs := by
  obtain ⟨⟨dx, h1⟩, h2, h3⟩ := tb
  rcases h with ⟨o, h⟩ | h
  · exact .inl ⟨o, s _ _ h (ne_of h h1 (by intro z; cases z)) (ne_of h h2 (by intro z; cases z)) (ne_of h h3 (by intro z; cases z))⟩
  · exact .inr h

/-! ### __init__ -/
def spInit (K : PySem.W.Frag) (C : Addr) : Sp := fun vs H Q _ => ∃ (x dx a : Addr) (k t f : Nat) (ns : List Nat), vs = [.ref x, vN k, vN t, vN f, .ref a] ∧ H x = some (.ins C dx []) ∧ FzL K H a (ns.map vN) ∧ 1 ≤ k ∧ k ≤ 6 ∧ ns.Nodup ∧ ns.length ≤ 24 ∧
  ∀ (H' : Hp) (l d : Addr), TabAt C H' x l d t f 0 [] (dealS ns k) → (∀ b o, H b = some o → b ≠ x → H' b = some o) → H l = none → H d = none → Q .non H'

theorem dealS_at {ns : List Nat} {k i c : Nat} (h : ns[i]? = some c) : (dealS ns k)[i]? = some (c, i / k) := by
  unfold dealS
  have hi := (List.getElem?_eq_some_iff.mp h).1
  rw [List.getElem?_map, List.getElem?_range hi]
  show some (ns.getD i 0, i / k) = _
  rw [List.getD_eq_getElem?_getD, h]; rfl
theorem dealS_len (ns : List Nat) (k : Nat) : (dealS ns k).length = ns.length := by unfold dealS; rw [List.length_map, List.length_range]
theorem dealS_new {ns : List Nat} {k i c : Nat} (hn : ns.Nodup) (h : ns[i]? = some c) (s : Nat) : (c, s) ∉ (dealS ns k).take i := fun z => by
  obtain ⟨j, hj, ej⟩ := List.getElem_of_mem z
  rw [List.getElem_take] at ej
  rw [List.length_take, dealS_len] at hj
  have hj' : (dealS ns k)[j]? = some (ns[j]'(by omega), j / k) := dealS_at (List.getElem?_eq_getElem (by omega))
  rw [List.getElem?_eq_getElem (by rw [dealS_len]; omega), ej] at hj'
  have e := congrArg Prod.fst (Option.some.inj hj')
  obtain ⟨hi, ei⟩ := List.getElem?_eq_some_iff.mp h
  have := nd_inj hn (show j < ns.length by omega) hi (e.symm.trans ei.symm)
  omega




structure TxtD (K : PySem.W.Frag) (mg : Str → Option Value) : Prop where
  gSEATS : ∃ t, mg "SEATS" = some (.int 4 t)
  gSUITS : ∃ t, mg "SUITS" = some (.int 4 t)
  gHEIGHTS : ∃ t, mg "HEIGHTS" = some (.int 13 t)
  gMOST : ∃ t, mg "MOST_TRICKS" = some (.int 6 t)
  bLen : mg "len" = none
  bAny : mg "any" = none
  bSet : mg "set" = none

theorem tYes_of {σ : L2.St} {H : Hp} {A B : Hp → Prop} (h : A H) : tYes σ H (fun b H3 => if b = true then A H3 else B H3) := by
  show if true = true then A H else B H
  rw [if_pos rfl]; exact h
theorem nats_map {cs : List Int} (h : ∀ c ∈ cs, 0 ≤ c) : cs.map V.int = (nats cs).map vN := by
  unfold nats
  rw [List.map_map]
  refine List.map_congr_left fun c hc => ?_
  have := h c hc
  show V.int c = V.int ((c.toNat : Nat) : Int)
  rw [Int.toNat_of_nonneg this]
theorem inV_nat (c : Nat) (L : List Nat) : inV (vN c) (L.map vN) = decide (c ∈ L) := by
  unfold inV
  rw [Bool.eq_iff_iff, List.any_eq_true, decide_eq_true_iff]
  constructor
  · rintro ⟨y, hy, e⟩
    obtain ⟨d, hd, rfl⟩ := List.mem_map.mp hy
    have e : ((d : Int) == (c : Int)) = true := e
    rw [beq_iff_eq] at e
    have : d = c := by omega
    subst this; exact hd
  · intro h
    exact ⟨vN c, List.mem_map.mpr ⟨c, h, rfl⟩, by show ((c : Int) == (c : Int)) = true; rw [beq_iff_eq]⟩
theorem flat_nats (L : List Nat) : (L.map vN).all flatV = true := by
  rw [List.all_eq_true]
  intro x hx
  obtain ⟨c, _, rfl⟩ := List.mem_map.mp hx
  rfl

def spDeal (K : PySem.W.Frag) : Sp := fun vs H Q _ => ∃ (a : Addr) (k t f : Int) (cs : List Int), vs = [.int k, .int t, .int f, .ref a] ∧ SqL K H a (cs.map V.int) ∧ cs.length ≤ 24 ∧ ∀ (b : Bool) (H' : Hp), (b = true ↔ DealOk k t f cs) → Same H H' → Q (.bl b) H'
def spAll (K : PySem.W.Frag) (C : Addr) : Sp := fun vs H Q _ => ∃ (x l d a : Addr) (wn m : Nat) (g : Game) (seats : List (Nat × Nat)) (ps : List Nat), vs = [.ref x, .ref a] ∧ FzL K H a (ps.map vN) ∧ TabAt C H x l d g.trump g.first wn g.trick seats ∧ SeatsOk m g seats ∧
  (∀ (H' : Hp) (l' : Addr) (g' : Game) (n m' : Nat) (seats' : List (Nat × Nat)), Sy12.after g ps = some (g', n) → TabAt C H' x l' d g'.trump g'.first (wn + n) g'.trick seats' → SeatsOk m' g' seats' → (∀ p, p ∈ seats' → p ∈ seats) → g'.trump = g.trump → Kept H H' x l d → (l' = l ∨ H l' = none) → Q (.bl true) H') ∧
  (∀ H' : Hp, Sy12.after g ps = none → Q (.bl false) H')




structure TxtE (mg : Str → Option Value) : Prop where
  gDEAL : ∃ t, mg "WRONG_DEAL" = some (.int (-2) t)
  gPLAY : ∃ t, mg "WRONG_PLAY" = some (.int (-1) t)

/-- what is handed in: the deal's numbers -/
structure HandOk (K : PySem.W.Frag) (H : Hp) (a : Addr) (k : Int) (cs : List Int) : Prop where
  fz : FzL K H a (cs.map V.int)
  nn : ∀ c ∈ cs, 0 ≤ c
  len : (cs.length : Int) = if 1 ≤ k ∧ k ≤ 6 then 4 * k else 0
theorem HandOk.len24 {K : PySem.W.Frag} {H : Hp} {a : Addr} {k : Int} {cs : List Int} (h : HandOk K H a k cs) : cs.length ≤ 24 := by
  have := h.len
  by_cases e : 1 ≤ k ∧ k ≤ 6
  · rw [if_pos e] at this; omega
  · rw [if_neg e] at this; omega
theorem HandOk.len4 {K : PySem.W.Frag} {H : Hp} {a : Addr} {k t f : Int} {cs : List Int} (h : HandOk K H a k cs) (d : DealOk k t f cs) : cs.length = 4 * k.toNat := by
  have := h.len
  rw [if_pos d.1] at this
  have := d.1
  omega
theorem nats_len (cs : List Int) : (nats cs).length = cs.length := by unfold nats; rw [List.length_map]
theorem vN_toNat {k : Int} (h : 0 ≤ k) : V.int k = vN k.toNat := by
  show V.int k = V.int ((k.toNat : Nat) : Int)
  rw [Int.toNat_of_nonneg h]

def spTaken (K : PySem.W.Frag) : Sp := fun vs H Q _ => ∃ (a b : Addr) (k t f : Int) (cs ps : List Int), vs = [.int k, .int t, .int f, .ref a, .ref b] ∧ HandOk K H a k cs ∧ FzL K H b (ps.map V.int) ∧ (∀ c ∈ ps, 0 ≤ c) ∧ ps.length ≤ 25 ∧
  ∀ (H' : Hp) (p : Addr), H' p = some (.lst ((PySy12.taken k t f cs ps).map V.int)) → Q (.ref p) H'



end PT

end
section
set_option Elab.async false
set_option linter.all false
set_option maxRecDepth 100000
set_option maxHeartbeats 2000000
namespace PT
open PySem PySem.Spec PyProof.Rows L2 LT
open TL (ext_tl tl_append tl_num tl join_eq tl_join joinL int_num numL_lt)
/-! ### an order as a text -/
def sgn (x : Nat) : Nat := if x = 4 then 47 else 48 + x
def encS (w : List Nat) : Str := ⟨(w.map sgn).toArray⟩
theorem sgn_inj {x y : Nat} (h : sgn x = sgn y) : x = y := by
  unfold sgn at h
  split at h <;> split at h <;> omega
theorem tl_enc (w : List Nat) : (encS w).cps.toList = w.map sgn := rfl
theorem enc_len (w : List Nat) : (encS w).length = w.length := by
  show ((w.map sgn).toArray).size = _
  rw [List.size_toArray, List.length_map]
theorem str_ext {x y : Str} (h : x.cps.toList = y.cps.toList) : x = y := ext_tl h
theorem map_inj_of {f : Nat → Nat} (hf : ∀ {x y}, f x = f y → x = y) : ∀ {l m : List Nat}, l.map f = m.map f → l = m
  | [], [], _ => rfl
  | [], _ :: _, h => by cases h
  | _ :: _, [], h => by cases h
  | a :: l, b :: m, h => by
    rw [List.map_cons, List.map_cons] at h
    injection h with h1 h2
    rw [hf h1, map_inj_of hf h2]
theorem enc_inj {w v : List Nat} (h : encS w = encS v) : w = v := by
  have : (encS w).cps.toList = (encS v).cps.toList := by rw [h]
  exact map_inj_of sgn_inj this
theorem enc_at {w : List Nat} {p x : Nat} (h : w[p]? = some x) : (encS w).cps.toList[p]? = some (sgn x) := by
  rw [tl_enc, List.getElem?_map, h]; rfl
theorem enc_app (a b : List Nat) : encS a ++ encS b = encS (a ++ b) := by
  refine str_ext ?_
  have := tl_append (encS a) (encS b)
  refine this.trans ?_
  show (encS a).cps.toList ++ (encS b).cps.toList = (encS (a ++ b)).cps.toList
  rw [tl_enc, tl_enc, tl_enc, List.map_append]
theorem fence_eq : (Str.ofString "/") = ⟨#[47]⟩ := by decide +kernel
theorem dig_eq {s : Nat} (h : s < 4) : (Str.ofString (toString ((s : Nat) : Int))) = ⟨#[48 + s]⟩ := by
  refine str_ext ?_
  have := tl_num s
  rw [numL_lt (by omega)] at this
  exact this
theorem one_eq {a b : Nat} : decide ((V.str ⟨#[a]⟩ : V) = V.str ⟨#[b]⟩) = true ↔ a = b := by
  rw [decide_eq_true_iff]
  constructor
  · intro h
    injection h with h
    have : (⟨#[a]⟩ : Str).cps.toList = (⟨#[b]⟩ : Str).cps.toList := by rw [h]
    simpa using this
  · intro h; rw [h]

/-! ### how often a sign stands in a text -/
theorem occ_size (x : Str) (c limit : Nat) : ∀ (n i : Nat) (st : Array Nat × Nat), st.2 ≤ i → st.1.size + n ≤ limit →
    (forIn (List.range' i n) st (PySem.StrLaws.occBody x ⟨#[c]⟩ x.length limit)).run.fst.size = st.1.size + ((x.cps.toList.drop i).take n).count c
  | 0, i, st, _, _ => by simp
  | n + 1, i, st, h1, h2 => by
    rw [List.range'_succ, List.forIn_cons]
    have hone := PySem.StrLaws.subAt_one x c i
    unfold PySem.StrLaws.occBody
    by_cases hc : x.cps.toList[i]? = some c
    · have hd : (x.cps.toList.drop i).take (n + 1) = c :: (x.cps.toList.drop (i + 1)).take n := by
        obtain ⟨hi, e⟩ := List.getElem?_eq_some_iff.mp hc
        rw [List.drop_eq_getElem_cons hi, List.take_succ_cons, e]
      rw [if_pos ⟨⟨⟨by omega, h1⟩, (hone.mpr hc).1⟩, (hone.mpr hc).2⟩, hd, List.count_cons_self]
      have ih := occ_size x c limit n (i + 1) (st.1.push i, i + (⟨#[c]⟩ : Str).length) (Nat.le_refl _) (by rw [Array.size_push]; omega)
      refine ih.trans ?_
      rw [Array.size_push]; omega
    · have hcond : ¬ (((st.1.size < limit ∧ st.2 ≤ i) ∧ i + (⟨#[c]⟩ : Str).length ≤ x.length) ∧ Builtin.Str.subAt x ⟨#[c]⟩ i = true) := fun z => hc (hone.mp ⟨z.1.2, z.2⟩)
      rw [if_neg hcond]
      have ih := occ_size x c limit n (i + 1) (st.1, st.2) (by show st.2 ≤ i + 1; omega) (by show st.1.size + n ≤ limit; omega)
      refine ih.trans ?_
      congr 1
      by_cases hi : i < x.cps.toList.length
      · have hd : (x.cps.toList.drop i).take (n + 1) = x.cps.toList[i] :: (x.cps.toList.drop (i + 1)).take n := by
          rw [List.drop_eq_getElem_cons hi, List.take_succ_cons]
        rw [hd, List.count_cons_of_ne]
        intro z
        exact hc (by rw [List.getElem?_eq_getElem hi, z])
      · rw [List.drop_eq_nil_of_le (by omega), List.drop_eq_nil_of_le (by omega)]; simp
theorem txt_count (x : Str) (c : Nat) : Txt.count x ⟨#[c]⟩ = ((x.cps.toList.count c : Nat) : Int) := by
  unfold Txt.count
  rw [PySem.StrLaws.occ_eq, Array.length_toList, occ_size x c (x.length + 1) (x.length + 1 - 0) 0 (#[], 0) (Nat.le_refl _) (by simp)]
  have hl : x.cps.toList.length = x.length := by simp [Str.length]
  rw [List.drop_zero, List.take_of_length_le (by omega)]
  simp
theorem count_enc (w : List Nat) : Txt.count (encS w) ⟨#[47]⟩ = ((tS w : Nat) : Int) := by
  rw [txt_count, tl_enc]
  have : ∀ l : List Nat, (l.map sgn).count 47 = l.count 4 := by
    intro l
    induction l with
    | nil => rfl
    | cons a l ih =>
      rw [List.map_cons, List.count_cons, List.count_cons, ih]
      congr 1
      unfold sgn
      by_cases e : a = 4
      · subst e; rfl
      · rw [if_neg e, if_neg (by rw [beq_iff_eq]; omega), if_neg (by rw [beq_iff_eq]; exact e)]
  rw [this]; rfl
theorem enc_cut (w : List Nat) {a b : Nat} (hab : a ≤ b) (hb : b ≤ w.length) : cutS (encS w) (some (a : Int)) (some (b : Int)) = encS ((w.drop a).take (b - a)) := by
  refine str_ext ?_
  unfold cutS
  rw [HT.sIx_nat, HT.sIx_nat, enc_len, Nat.min_eq_left hb, Nat.min_eq_left (by omega : a ≤ w.length), tl_enc, tl_enc]
  show ((w.map sgn).drop a).take (b - a) = _
  rw [List.map_take, List.map_drop]
theorem enc_tail (w : List Nat) {a : Nat} (ha : a ≤ w.length) : cutS (encS w) (some (a : Int)) none = encS (w.drop a) := by
  refine str_ext ?_
  unfold cutS
  rw [HT.sIx_nat, HT.sIx_none, enc_len, Nat.min_eq_left ha, tl_enc, tl_enc]
  show ((w.map sgn).drop a).take (w.length - a) = _
  rw [List.map_drop, List.take_of_length_le (by rw [List.length_drop, List.length_map]; exact Nat.le_refl _)]
theorem enc_join (w : List Nat) : Txt.join (Str.ofString "") (w.map fun x => (⟨#[sgn x]⟩ : Str)) = encS w := by
  rw [join_eq]
  refine str_ext ?_
  have h := tl_join (Str.ofString "") (w.map fun x => (⟨#[sgn x]⟩ : Str))
  refine h.trans ?_
  have e0 : tl (Str.ofString "") = [] := by decide +kernel
  rw [e0, tl_enc, List.map_map]
  have : ∀ l : List Nat, joinL [] (l.map (tl ∘ fun x => (⟨#[sgn x]⟩ : Str))) = l.map sgn := by
    intro l
    induction l with
    | nil => rfl
    | cons a l ih =>
      cases l with
      | nil => rfl
      | cons b l =>
        rw [List.map_cons, List.map_cons]
        rw [List.map_cons] at ih
        show [sgn a] ++ [] ++ joinL [] _ = _
        rw [ih]; rfl
  exact this w
theorem int_dig {s : Nat} (h : s < 4) : PySem.intText? ⟨#[48 + s]⟩ = some (s : Int) := by
  rw [← dig_eq h]
  refine int_num ?_
  rw [numL_lt (by omega)]
  show 1 ≤ 4300
  decide
end PT

end
section
set_option Elab.async false
set_option linter.all false
set_option maxRecDepth 100000
set_option maxHeartbeats 2000000
namespace PT
open PySem PySem.Spec PyProof.Rows L2 LT
open PySem.W (Codec)
open Sy12 (Game suit)

/-! ### loops -/
theorem for_str {z : Str} {g : TG} {tb : TS} {D : Ends} {σ : L2.St} {H : Hp} (Pv : Nat → L2.St → Hp → Prop) (h0 : Pv 0 σ H)
    (hs : ∀ i c σ H, z.cps.toList[i]? = some c → Pv i σ H → g (.str ⟨#[c]⟩) σ H fun σ2 H2 => tb { D with nx := Pv (i + 1), ct := Pv (i + 1), bk := D.nx } σ2 H2) (hd : ∀ σ H, Pv z.length σ H → D.nx σ H) :
    ∃ W : Nat → Nat → L2.St → Hp → Prop, (∃ m, W 0 m σ H) ∧ ∀ i m σ H, W i m σ H →
      ((Its z).stop i H ∧ D.nx σ H) ∨ ((Its z).go i H ∧ ∃ N : L2.St → Hp → Prop, (∀ σ' H', N σ' H' → ∃ m', m' < m ∧ W (i + 1) m' σ' H') ∧ ∀ x H', (Its z).yld i H x H' → g x σ H' fun σ2 H2 => tb { D with nx := N, ct := N, bk := D.nx } σ2 H2) := by
  refine ⟨fun i m σ H => m = z.length - i ∧ i ≤ z.length ∧ Pv i σ H, ⟨z.length, by simp, Nat.zero_le _, h0⟩, ?_⟩
  rintro i m σ H ⟨rfl, hi, p⟩
  by_cases hlt : i < z.length
  · refine .inr ⟨hlt, Pv (i + 1), fun σ' H' p' => ⟨z.length - (i + 1), by omega, rfl, hlt, p'⟩, fun x H' y => ?_⟩
    obtain ⟨e, c, hc, ex⟩ := y
    subst e ex
    exact hs i c σ _ (by rw [Array.getElem?_toList]; exact hc) p
  · have e : i = z.length := by omega
    subst e
    exact .inl ⟨Nat.le_refl _, hd σ H p⟩
theorem lc_rev {K : PySem.W.Frag} {a : Addr} {xs : List V} {g : TG} {tt : TT} {te : TE} {vs : List Nat} {σ : L2.St} {H1 : Hp} {D : Addr} {Qd : Hp → Prop} (Pv : Nat → Hp → Prop) (h0 : Pv 0 (upd H1 D (.lst []))) (hl : ∀ i H, i ≤ xs.length → Pv i H → SqL K H a xs)
    (hs : ∀ i x H, xs.reverse[i]? = some x → Pv i H → g x (wipe σ vs) H fun σ2 H2 => wipe σ2 vs = wipe σ vs ∧ tt σ2 H2 fun b H3 =>
      if b = true then te σ2 H3 fun y H4 => ∃ acc, H4 D = some (.lst acc) ∧ acc.length < sizeLine ∧ Pv (i + 1) (upd H4 D (.lst (acc ++ [y]))) else Pv (i + 1) H3) (hd : ∀ H, Pv xs.length H → Qd H) :
    ∃ W : Nat → Nat → Hp → Prop, (∃ m, W 0 m (upd H1 D (.lst []))) ∧ ∀ i m H, W i m H →
      ((Itv K a xs.length).stop i H ∧ Qd H) ∨ ((Itv K a xs.length).go i H ∧ ∃ Nx : Hp → Prop, (∀ H', Nx H' → ∃ m', m' < m ∧ W (i + 1) m' H') ∧ ∀ x H', (Itv K a xs.length).yld i H x H' → g x (wipe σ vs) H' fun σ2 H2 => wipe σ2 vs = wipe σ vs ∧ tt σ2 H2 fun b H3 =>
        if b = true then te σ2 H3 fun y H4 => ∃ acc, H4 D = some (.lst acc) ∧ acc.length < sizeLine ∧ Nx (upd H4 D (.lst (acc ++ [y]))) else Nx H3) := by
  refine ⟨fun i m H => m = xs.length - i ∧ i ≤ xs.length ∧ Pv i H, ⟨xs.length, by simp, Nat.zero_le _, h0⟩, ?_⟩
  rintro i m H ⟨rfl, hi, p⟩
  have q := hl i H hi p
  by_cases hlt : i < xs.length
  · have hx : xs[xs.length - 1 - i]? = some xs[xs.length - 1 - i] := List.getElem?_eq_getElem (by omega)
    refine .inr ⟨⟨hlt, xs, _, q, hx⟩, Pv (i + 1), fun H' p' => ⟨xs.length - (i + 1), by omega, rfl, hlt, p'⟩, fun x H' y => ?_⟩
    obtain ⟨e, y⟩ := y
    subst e
    refine hs i x _ ?_ p
    rw [List.getElem?_reverse hlt]
    exact y xs q
  · have e : i = xs.length := by omega
    subst e
    exact .inl ⟨Nat.le_refl _, hd H p⟩
section
variable {X : Cx} {K : PySem.W.Frag}
theorem ix_listB (hK : X.K = K) : IxR X (rIxL K) := by subst hK; exact ix_list
theorem mt_indexB (hK : X.K = K) : MtR X "list.index" (rIndex K) := by subst hK; exact mt_index
theorem pe_bmB {o e : Expr} {es : List Expr} {to : TE} {t : TA} {name : Str} {apos cpos : Pos} {T id : String} {r : V → List V → Hp → VK → Prop} (hK : X.K = K) (pa : PlainAttrs T) (slot : Slot T name id) (hty : typeOf (.builtin id) = pure (.type "method_descriptor")) (hm : MtR X id r) (ho : PE X o to) (ha : PA X (e :: es) t)
    (hbase : attributeBase o name X.env (eval o X.env) = eval o X.env := by rfl)
    (hfew : ((backTo cpos (starEach (e :: es) X.env)).all (fun x => !x.1) && (backToKw cpos (keywordEach [] X.env)).all (fun x => x.1.isSome)
      && decide ((e :: es).length + ([] : List Keyword).length + (if ([] : List Keyword).isEmpty then 0 else 1) < 30)) = true := by rfl)
    (hline : (apos.endLine == cpos.line) = true := by rfl) (hs : starEach (e :: es) X.env = (false, eval e X.env) :: starEach es X.env := by rfl) (hplain : (backTo cpos (starEach es X.env)).any (·.1) = false := by rfl) : PE X (.Call (.Attribute o name apos) (e :: es) [] cpos) (tBM K T r to t) := by subst hK; exact pe_bm pa slot hty hm ho ha hbase hfew hline hs hplain
theorem op_in_seqB (hK : X.K = K) : OpR X (compareOp .In) (rIn K false) := by subst hK; exact op_in_seq
end

/-! ### a layout -/
def lf (w : List Nat) (sa ch : Addr) : List (Str × V) := [("order", .str (encS w)), ("suit_at", .ref sa), ("trump_suit", vN (tS w)), ("choices", .ref ch)]
section
variable {w : List Nat} {sa ch : Addr}
theorem lf_order : (lf w sa ch).lookup ("order" : Str) = some (.str (encS w)) := lk_eq
theorem lf_suit : (lf w sa ch).lookup ("suit_at" : Str) = some (.ref sa) := (lk_ne (by decide +kernel)).trans lk_eq
theorem lf_trump : (lf w sa ch).lookup ("trump_suit" : Str) = some (vN (tS w)) := (lk_ne (by decide +kernel)).trans ((lk_ne (by decide +kernel)).trans lk_eq)
theorem lf_choices : (lf w sa ch).lookup ("choices" : Str) = some (.ref ch) := (lk_ne (by decide +kernel)).trans ((lk_ne (by decide +kernel)).trans ((lk_ne (by decide +kernel)).trans lk_eq))
end
/-- all but one thing is as it was -/
def But (H H' : Hp) (n : Addr) : Prop := ∀ b o, H b = some o → b ≠ n → H' b = some o
theorem But.of_same {H H' : Hp} {n : Addr} (s : Same H H') : But H H' n := fun b o e _ => s b o e
theorem But.trans {H H1 H2 : Hp} {n : Addr} (a : But H H1 n) (b : But H1 H2 n) : But H H2 n := fun c o e h => b c o (a c o e h) h
def suitL (w : List Nat) : List V := (List.range w.length).map fun p => vN (sAt w p)
/-- a layout of w stands at y -/
structure LayAt (CL : Addr) (H : Hp) (y : Addr) (w : List Nat) : Prop where
  ex : ∃ (dx sa ch : Addr) (c : Nat → Addr), H y = some (.ins CL dx (lf w sa ch)) ∧ H sa = some (.lst (suitL w)) ∧ H ch = some (.lst [.ref (c 0), .ref (c 1), .ref (c 2), .ref (c 3)]) ∧ ∀ s, s < 4 → H (c s) = some (.lst ((worth w s).map vN))
theorem LayAt.but {CL : Addr} {H H' : Hp} {y n : Addr} {w : List Nat} {kvs : List (List Key × V)} (L : LayAt CL H y w) (hn : H n = some (.dT kvs)) (s : But H H' n) : LayAt CL H' y w := by
  obtain ⟨dx, sa, ch, c, h1, h2, h3, h4⟩ := L.ex
  exact ⟨dx, sa, ch, c, s _ _ h1 (ne_of h1 hn (by intro z; cases z)), s _ _ h2 (ne_of h2 hn (by intro z; cases z)), s _ _ h3 (ne_of h3 hn (by intro z; cases z)), fun i hi => s _ _ (h4 i hi) (ne_of (h4 i hi) hn (by intro z; cases z))⟩
theorem LayAt.same {CL : Addr} {H H' : Hp} {y : Addr} {w : List Nat} (L : LayAt CL H y w) (s : Same H H') : LayAt CL H' y w := by
  obtain ⟨dx, sa, ch, c, h1, h2, h3, h4⟩ := L.ex
  exact ⟨dx, sa, ch, c, s _ _ h1, s _ _ h2, s _ _ h3, fun i hi => s _ _ (h4 i hi)⟩
theorem suitL_at {w : List Nat} {p : Nat} (h : p < w.length) : (suitL w)[p]? = some (vN (sAt w p)) := by
  unfold suitL
  rw [List.getElem?_map, List.getElem?_range h]; rfl

/-! ### what is known -/
def keyOf (w : List Nat) (l n : Nat) : List Key := [Sum.inr (encS w), Sum.inl (l : Int), Sum.inl (n : Int)]
theorem keyOf_inj {w w' : List Nat} {l l' n n' : Nat} (h : keyOf w l n = keyOf w' l' n') : w = w' ∧ l = l' ∧ n = n' := by
  unfold keyOf at h
  injection h with h1 h2
  injection h2 with h2 h3
  injection h3 with h3 _
  refine ⟨enc_inj (Sum.inr.inj h1), ?_, ?_⟩
  · have := Sum.inl.inj h2; omega
  · have := Sum.inl.inj h3; omega
/-- the question's answer -/
noncomputable def ansW (j : Nat) (w : List Nat) (l : Nat) (n : Int) : Bool := @decide (WinP j w l [] n) (Classical.propDecidable _)
theorem ansW_iff {j : Nat} {w : List Nat} {l : Nat} {n : Int} : ansW j w l n = true ↔ WinP j w l [] n := by
  unfold ansW
  exact @decide_eq_true_iff _ (Classical.propDecidable _)
structure Memo (w0 : List Nat) (kvs : List (List Key × V)) : Prop where
  nd : (kvs.map (·.1)).Nodup
  at_ : ∀ p ∈ kvs, ∃ (w : List Nat) (l n j : Nat), p.1 = keyOf w l n ∧ SubO w w0 ∧ OkW j w ∧ l < 4 ∧ 1 ≤ n ∧ n ≤ 6 ∧ p.2 = .bl (ansW j w l n)
theorem Memo.nil (w0 : List Nat) : Memo w0 [] := ⟨List.nodup_nil, fun p h => by cases h⟩
theorem okW_uniq {i j : Nat} {w : List Nat} (h : OkW i w) (h' : OkW j w) : i = j := (h 0 (by decide)).symm.trans (h' 0 (by decide))
theorem valV_mem : ∀ {kvs : List (List Key × V)} {k : List Key} {v : V}, valV kvs k = some v → (k, v) ∈ kvs
  | [], _, _, h => by cases h
  | p :: r, k, v, h => by
    by_cases e : p.1 = k
    · rw [valV_pos e] at h
      have : p.2 = v := Option.some.inj h
      rw [← e, ← this]; exact List.mem_cons_self
    · rw [valV_neg e] at h
      exact List.mem_cons_of_mem _ (valV_mem h)
theorem Memo.get {w0 w : List Nat} {kvs : List (List Key × V)} {l n j : Nat} {v : V} (M : Memo w0 kvs) (hj : OkW j w) (h : valV kvs (keyOf w l n) = some v) : v = .bl (ansW j w l n) := by
  obtain ⟨w', l', n', j', e, _, hj', _, _, _, ev⟩ := M.at_ _ (valV_mem h)
  obtain ⟨rfl, rfl, rfl⟩ := keyOf_inj e
  have : j = j' := okW_uniq hj hj'
  subst this; exact ev
theorem Memo.put {w0 w : List Nat} {kvs : List (List Key × V)} {l n j : Nat} (M : Memo w0 kvs) (hs : SubO w w0) (hj : OkW j w) (hl : l < 4) (h1 : 1 ≤ n) (h6 : n ≤ 6) (h : valV kvs (keyOf w l n) = none) : Memo w0 (putK kvs (keyOf w l n) (.bl (ansW j w l n))) := by
  refine ⟨nd_putK _ M.nd h, fun p hp => ?_⟩
  rw [putK_new _ h] at hp
  rcases List.mem_append.mp hp with z | z
  · exact M.at_ p z
  · have : p = (keyOf w l n, V.bl (ansW j w l n)) := by simpa using z
    subst this
    exact ⟨w, l, n, j, rfl, hs, hj, hl, h1, h6, rfl⟩
theorem Memo.put' {w0 w : List Nat} {kvs : List (List Key × V)} {l n j : Nat} (M : Memo w0 kvs) (hs : SubO w w0) (hj : OkW j w) (hl : l < 4) (h1 : 1 ≤ n) (h6 : n ≤ 6) : Memo w0 (putK kvs (keyOf w l n) (.bl (ansW j w l n))) := by
  cases hv : valV kvs (keyOf w l n) with
  | none => exact M.put hs hj hl h1 h6 hv
  | some v =>
    have ha : (kvs.any fun kv => decide (kv.1 = keyOf w l n)) = true := by rw [valV_any, hv]; rfl
    have e : putK kvs (keyOf w l n) (.bl (ansW j w l n)) = kvs.map fun kv => if kv.1 = keyOf w l n then (kv.1, V.bl (ansW j w l n)) else kv := by
      unfold putK
      rw [if_pos ha]
    have e2 : (kvs.map fun kv => if kv.1 = keyOf w l n then (kv.1, V.bl (ansW j w l n)) else kv) = kvs := by
      have : (kvs.map fun kv => if kv.1 = keyOf w l n then (kv.1, V.bl (ansW j w l n)) else kv) = kvs.map id := List.map_congr_left fun p hp => by
        by_cases z : p.1 = keyOf w l n
        · show (if p.1 = keyOf w l n then (p.1, V.bl (ansW j w l n)) else p) = p
          rw [if_pos z]
          obtain ⟨w', l', n', j', e', _, hj', _, _, _, ev⟩ := M.at_ p hp
          obtain ⟨rfl, rfl, rfl⟩ := keyOf_inj (z.symm.trans e')
          have : j = j' := okW_uniq hj hj'
          subst this
          exact Prod.ext rfl ev.symm
        · exact if_neg z
      rw [this, List.map_id]
    rw [e, e2]; exact M
/-- a key's question -/
noncomputable def askOf (k : List Key) : List Nat × Nat × Nat := @dite _ (∃ q : List Nat × Nat × Nat, k = keyOf q.1 q.2.1 q.2.2) (Classical.propDecidable _) (fun h => Classical.choose h) (fun _ => ([], 0, 0))
theorem askOf_key (w : List Nat) (l n : Nat) : askOf (keyOf w l n) = (w, l, n) := by
  have h : ∃ q : List Nat × Nat × Nat, keyOf w l n = keyOf q.1 q.2.1 q.2.2 := ⟨(w, l, n), rfl⟩
  unfold askOf
  rw [dif_pos h]
  have := Classical.choose_spec h
  obtain ⟨e1, e2, e3⟩ := keyOf_inj this
  exact Prod.ext e1.symm (Prod.ext e2.symm e3.symm)
theorem Memo.few {w0 : List Nat} {m : Nat} {kvs : List (List Key × V)} (M : Memo w0 kvs) (h0 : OkW m w0) (hs : Signs w0) (hm : m ≤ 6) : kvs.length < sizeLine := by
  have e : kvs.length = ((kvs.map (·.1)).map askOf).length := by rw [List.length_map, List.length_map]
  rw [e, sizeLine_eq]
  have key : ∀ k ∈ kvs.map (·.1), ∃ (w : List Nat) (l n j : Nat), k = keyOf w l n ∧ SubO w w0 ∧ OkW j w ∧ l < 4 ∧ 1 ≤ n ∧ n ≤ 6 := fun k hk => by
    obtain ⟨p, hp, rfl⟩ := List.mem_map.mp hk
    obtain ⟨w, l, n, j, h1, h2, h3, h4, h5, h6, _⟩ := M.at_ p hp
    exact ⟨w, l, n, j, h1, h2, h3, h4, h5, h6⟩
  refine asks_few h0 hs hm ?_ fun w l n hq => ?_
  · have N := M.nd
    rw [List.nodup_iff_pairwise_ne] at N ⊢
    rw [List.pairwise_map]
    refine List.Pairwise.imp_of_mem (fun {a b} ha hb hab z => hab ?_) N
    obtain ⟨w, l, n, _, rfl, _⟩ := key a ha
    obtain ⟨w', l', n', _, rfl, _⟩ := key b hb
    rw [askOf_key, askOf_key] at z
    have e1 := congrArg Prod.fst z
    have e2 := congrArg (fun q => q.2.1) z
    have e3 := congrArg (fun q => q.2.2) z
    have e1 : w = w' := e1
    have e2 : l = l' := e2
    have e3 : n = n' := e3
    rw [e1, e2, e3]
  · obtain ⟨k, hk, e⟩ := List.mem_map.mp hq
    obtain ⟨w', l', n', j, rfl, h2, h3, h4, h5, h6⟩ := key k hk
    rw [askOf_key] at e
    have e1 : w' = w := congrArg Prod.fst e
    have e2 : l' = l := congrArg (fun q => q.2.1) e
    have e3 : n' = n := congrArg (fun q => q.2.2) e
    subst e1 e2 e3
    exact ⟨h2, ⟨j, h3⟩, h4, h5, h6⟩

/-! ### the text's names -/
structure TxtS (K : PySem.W.Frag) (mg : Str → Option Value) (CL : Addr) : Prop where
  cl : Cls K CL
  nOrder : NoAttr K CL "order"
  nSuit : NoAttr K CL "suit_at"
  nTrump : NoAttr K CL "trump_suit"
  nChoices : NoAttr K CL "choices"
  mgL : mg "Layout" = some (.ref CL)
  gSEATS : ∃ t, mg "SEATS" = some (.int 4 t)
  gFENCE : ∃ t, mg "FENCE" = some (.str (Str.ofString "/") t)
  bLen : mg "len" = none
  bMax : mg "max" = none
  bSorted : mg "sorted" = none
  bStr : mg "str" = none
  bInt : mg "int" = none
  bRange : mg "range" = none
  bRev : mg "reversed" = none

/-! ### the promises -/
def spSuits : Sp := fun vs H Q _ => ∃ w : List Nat, vs = [.str (encS w)] ∧ w.length ≤ 1000 ∧ ∀ (p : Addr) (H' : Hp), H' p = some (.lst (suitL w)) → Same H H' → Q (.ref p) H'
def spWorth : Sp := fun vs H Q _ => ∃ (w : List Nat) (s : Nat), vs = [.str (encS w), vN s] ∧ s < 4 ∧ w.length ≤ 1000 ∧ ∀ (p : Addr) (H' : Hp), H p = none → H' p = some (.lst ((worth w s).map vN)) → Same H H' → Q (.ref p) H'
def spLay (CL : Addr) : Sp := fun vs H Q _ => ∃ (y dx : Addr) (w : List Nat), vs = [.ref y, .str (encS w)] ∧ H y = some (.ins CL dx []) ∧ w.length ≤ 1000 ∧ ∀ H' : Hp, LayAt CL H' y w → But H H' y → Q .non H'
def spTricks : Sp := fun vs H Q _ => ∃ (w : List Nat) (m : Nat), vs = [.str (encS w)] ∧ OkW m w ∧ Signs w ∧ w.length ≤ 1000 ∧ Q (vN m) H
def spPlaces (CL : Addr) : Sp := fun vs H Q _ => ∃ (y pl : Addr) (w ps : List Nat) (lead : Nat), vs = [.ref y, vN ((lead + ps.length) % 4), .ref pl] ∧ LayAt CL H y w ∧ H pl = some (.lst (ps.map vN)) ∧ PlOk w lead ps ∧ ps.length < 4 ∧ w.length ≤ 1000 ∧
  ∀ (q : Addr) (H' : Hp), H' q = some (.lst ((allowedW w ((lead + ps.length) % 4) ps).map vN)) → Same H H' → Q (.ref q) H'
def spTaker (CL : Addr) : Sp := fun vs H Q _ => ∃ (y pl : Addr) (w ps : List Nat) (lead : Nat), vs = [.ref y, .ref pl] ∧ LayAt CL H y w ∧ H pl = some (.lst (ps.map vN)) ∧ PlOk w lead ps ∧ ps.length = 4 ∧ w.length ≤ 1000 ∧
  ∀ H' : Hp, Same H H' → Q (vN (takerW w lead ps)) H'
def spWithout : Sp := fun vs H Q _ => ∃ (pl : Addr) (w ps : List Nat), vs = [.str (encS w), .ref pl] ∧ H pl = some (.lst (ps.map vN)) ∧ ps.length ≤ 4 ∧ ps.Nodup ∧ (∀ p ∈ ps, p < w.length) ∧ w.length ≤ 1000 ∧
  ∀ H' : Hp, Same H H' → Q (.str (encS (without w ps))) H'
end PT

end
section
set_option Elab.async false
set_option linter.all false
set_option maxRecDepth 100000
set_option maxHeartbeats 2000000
namespace PT
open PySem PySem.Spec PyProof.Rows L2 LT
open PySem.W (Codec)
open Sy12 (Game suit)
/-! ### an order without some places, piece by piece -/
theorem upTo_run {w P : List Nat} {a : Nat} : ∀ (d : Nat), a + d ≤ w.length → (∀ q, a ≤ q → q < a + d → q ∉ P) → upTo w P (a + d) = upTo w P a ++ (w.drop a).take d
  | 0, _, _ => by simp
  | d + 1, h, hn => by
    have hx : w[a + d]? = some w[a + d] := List.getElem?_eq_getElem (by omega)
    rw [← Nat.add_assoc, upTo_out (hn (a + d) (by omega) (by omega)) hx, upTo_run d (by omega) (fun q h1 h2 => hn q h1 (by omega)), List.append_assoc]
    congr 1
    rw [List.take_add_one, List.getElem?_drop, hx]; rfl
theorem upTo_len (w P : List Nat) : ∀ n, (upTo w P n).length ≤ n
  | 0 => by unfold LT.upTo; simp
  | n + 1 => by
    rw [upTo_succ, List.length_append]
    have := upTo_len w P n
    cases keep w P n <;> simp <;> omega
/-- where the next piece starts -/
def stAt (L : List Nat) (i : Nat) : Nat := if i = 0 then 0 else L.getD (i - 1) 0 + 1
theorem stAt_zero (L : List Nat) : stAt L 0 = 0 := if_pos rfl
theorem stAt_succ {L : List Nat} {i p : Nat} (h : L[i]? = some p) : stAt L (i + 1) = p + 1 := by
  unfold stAt
  rw [if_neg (by omega), Nat.add_sub_cancel, List.getD_eq_getElem?_getD, h]; rfl
theorem stAt_le {L : List Nat} {i : Nat} (hr : L.Pairwise (· < ·)) {j q : Nat} (hj : L[j]? = some q) (hji : j < i) (hi : i ≤ L.length) : q < stAt L i := by
  unfold stAt
  rw [if_neg (by omega)]
  have hx : L[i - 1]? = some L[i - 1] := List.getElem?_eq_getElem (by omega)
  rw [List.getD_eq_getElem?_getD, hx]
  show q < L[i - 1] + 1
  obtain ⟨hj', e⟩ := List.getElem?_eq_some_iff.mp hj
  by_cases z : j = i - 1
  · subst z; omega
  · have := List.pairwise_iff_getElem.mp hr j (i - 1) hj' (by omega) (by omega)
    omega
theorem stAt_ge {L : List Nat} {i : Nat} (hr : L.Pairwise (· < ·)) {j q : Nat} (hj : L[j]? = some q) (hji : i ≤ j) : stAt L i ≤ q := by
  unfold stAt
  by_cases e : i = 0
  · rw [if_pos e]; omega
  · rw [if_neg e]
    obtain ⟨hj', e1⟩ := List.getElem?_eq_some_iff.mp hj
    have hx : L[i - 1]? = some L[i - 1] := List.getElem?_eq_getElem (by omega)
    rw [List.getD_eq_getElem?_getD, hx]
    show L[i - 1] + 1 ≤ q
    have := List.pairwise_iff_getElem.mp hr (i - 1) j (by omega) hj' (by omega)
    omega

/-! ### the search's promises: n calls are allowed -/
/-- what is known stands at kn -/
structure KnAt (H : Hp) (kn : Addr) (w0 : List Nat) : Prop where
  ex : ∃ kvs, H kn = some (.dT kvs) ∧ Memo w0 kvs
/-- an order that can be met -/
structure OrdOk (w0 w : List Nat) (m : Nat) : Prop where
  sub : SubO w w0
  ok : OkW m w
  base : ∃ m0, OkW m0 w0 ∧ m0 ≤ 6
  sg : Signs w0
  len : w.length ≤ 1000
theorem OrdOk.signs {w0 w : List Nat} {m : Nat} (h : OrdOk w0 w m) : Signs w := h.sub.signs h.sg
theorem OrdOk.m6 {w0 w : List Nat} {m : Nat} (h : OrdOk w0 w m) : m ≤ 6 := by
  obtain ⟨m0, h0, h6⟩ := h.base
  have := h.sub.sub.count_le 0
  rw [h.ok 0 (by decide), h0 0 (by decide)] at this
  omega
theorem OrdOk.without {w0 w ps : List Nat} {m lead : Nat} (h : OrdOk w0 w m) (hp : PlOk w lead ps) (hl : ps.length = 4) : OrdOk w0 (LT.without w ps) (m - 1) :=
  ⟨(SubO.without hp).trans h.sub, OkW.without h.ok hp hl, h.base, h.sg, Nat.le_trans (upTo_len w ps w.length) h.len⟩
def spTR (CL : Addr) (n : Nat) : Sp := fun vs H Q _ => ∃ (kn y pl : Addr) (w0 w ps : List Nat) (m lead : Nat) (need : Int), vs = [.ref kn, .ref y, vN lead, .ref pl, .int need] ∧ KnAt H kn w0 ∧ LayAt CL H y w ∧ H pl = some (.lst (ps.map vN)) ∧ PlOk w lead ps ∧ OrdOk w0 w m ∧ 1 ≤ m ∧ 7 * m + 8 ≤ n + ps.length ∧
  ∀ (b : Bool) (H' : Hp), (b = true ↔ WinP m w lead ps need) → KnAt H' kn w0 → But H H' kn → Q (.bl b) H'
def spRR (CL : Addr) (n : Nat) : Sp := fun vs H Q _ => ∃ (kn y pl : Addr) (w0 w ps : List Nat) (m lead : Nat) (need : Int), vs = [.ref kn, .ref y, .ref pl, .int need] ∧ KnAt H kn w0 ∧ LayAt CL H y w ∧ H pl = some (.lst (ps.map vN)) ∧ PlOk w lead ps ∧ ps.length = 4 ∧ OrdOk w0 w m ∧ 1 ≤ m ∧ 7 * m + 3 ≤ n ∧
  ∀ (b : Bool) (H' : Hp), (b = true ↔ WinP m w lead ps need) → KnAt H' kn w0 → But H H' kn → Q (.bl b) H'
def spRE (n : Nat) : Sp := fun vs H Q _ => ∃ (kn : Addr) (w0 w : List Nat) (m lead : Nat) (need : Int), vs = [.ref kn, .str (encS w), vN lead, .int need] ∧ KnAt H kn w0 ∧ OrdOk w0 w m ∧ lead < 4 ∧ 7 * m + 9 ≤ n ∧
  ∀ (b : Bool) (H' : Hp), (b = true ↔ WinP m w lead [] need) → KnAt H' kn w0 → But H H' kn → Q (.bl b) H'
/-- the whole trick lies there -/
theorem winP_four {m : Nat} {w ps : List Nat} {lead : Nat} {need : Int} (hl : ps.length = 4) :
    WinP m w lead ps need ↔ WinP (m - 1) (without w ps) (takerW w lead ps) [] (need - if takerW w lead ps % 2 = 0 then 1 else 0) := by
  unfold WinP
  rw [if_neg (show ¬ ps.length < 4 by omega), if_pos (show ([] : List Nat).length < 4 by decide)]
  exact Iff.rfl
end PT

end
section
set_option Elab.async false
set_option linter.all false
set_option maxRecDepth 100000
set_option maxHeartbeats 2000000
namespace PT
open PySem PySem.Spec PyProof.Rows L2 LT
open PySem.W (Codec)
open Sy12 (Game suit)
theorem natural_nn {z : Int} (h : Sy12Neutral.natural z 8 = true) : 0 ≤ z := by
  unfold Sy12Neutral.natural at h
  rw [Bool.and_eq_true, decide_eq_true_iff] at h
  exact h.1
/-! ### the table as an order -/
structure TxtO (mg : Str → Option Value) : Prop where
  gSUITS : ∃ t, mg "SUITS" = some (.int 4 t)
  gNO : ∃ t, mg "NO_CARD" = some (.int 255 t)
  gFENCE : ∃ t, mg "FENCE" = some (.str (Str.ofString "/") t)
  bStr : mg "str" = none
  bRange : mg "range" = none
/-- a table of the game g stands at x -/
structure GameAt (C : Addr) (H : Hp) (x l d : Addr) (g : Game) (wn : Nat) (seats : List (Nat × Nat)) (m : Nat) : Prop where
  tab : TabAt C H x l d g.trump g.first wn g.trick seats
  ok : SeatsOk m g seats
theorem GameAt.same {C : Addr} {H H' : Hp} {x l d : Addr} {g : Game} {wn : Nat} {seats : List (Nat × Nat)} {m : Nat} (G : GameAt C H x l d g wn seats m) (s : Same H H') : GameAt C H' x l d g wn seats m := ⟨G.tab.same s, G.ok⟩
theorem GameAt.but {C : Addr} {H H' : Hp} {x l d n : Addr} {g : Game} {wn : Nat} {seats : List (Nat × Nat)} {m : Nat} {kvs : List (List Key × V)} (G : GameAt C H x l d g wn seats m) (hn : H n = some (.dT kvs)) (s : But H H' n) : GameAt C H' x l d g wn seats m := by
  obtain ⟨⟨⟨dx, h1⟩, h2, h3⟩, S⟩ := G
  exact ⟨⟨⟨dx, s _ _ h1 (ne_of h1 hn (by intro z; cases z))⟩, s _ _ h2 (ne_of h2 hn (by intro z; cases z)), s _ _ h3 (ne_of h3 hn (by intro z; cases z))⟩, S⟩
def spInSuit (C : Addr) : Sp := fun vs H Q _ => ∃ (x l d : Addr) (g : Game) (wn m sn : Nat) (seats : List (Nat × Nat)), vs = [.ref x, vN sn] ∧ GameAt C H x l d g wn seats m ∧ sn ≤ 4 ∧ ∀ (p : Addr) (H' : Hp), H p = none → H' p = some (.lst ((inSuit seats sn).map vN)) → Same H H' → Q (.ref p) H'
def spByPlace (C : Addr) : Sp := fun vs H Q _ => ∃ (x l d : Addr) (g : Game) (wn m : Nat) (seats : List (Nat × Nat)), vs = [.ref x] ∧ GameAt C H x l d g wn seats m ∧ ∀ (p : Addr) (H' : Hp), H' p = some (.lst ((cardsP seats g.trump).map vN)) → Same H H' → Q (.ref p) H'
def spOrder (C : Addr) : Sp := fun vs H Q _ => ∃ (x l d cp : Addr) (g : Game) (wn m : Nat) (seats : List (Nat × Nat)), vs = [.ref x, .ref cp] ∧ GameAt C H x l d g wn seats m ∧ H cp = some (.lst ((cardsP seats g.trump).map vN)) ∧ ∀ H' : Hp, Same H H' → Q (.str (encS (orderP seats g.trump))) H'
/-- what the table's question is about: the cards more are played behind the trick -/
def MoreOk (g : Game) (more : List Nat) : Prop := more = [] ∨ ∃ c, c ∈ g.may ∧ more = [c]
/-- how many tricks 0 and 2 take with it -/
def valM (g : Game) (more : List Nat) : Nat := match more with
  | [] => g.outcome
  | c :: _ => g.by_ c
/-- the table's order can be met -/
def InO (w0 : List Nat) (g : Game) (seats : List (Nat × Nat)) : Prop := SubO (orderP seats g.trump) w0 ∧ (∃ m0, OkW m0 w0 ∧ m0 ≤ 6) ∧ Signs w0
def spTable (C : Addr) : Sp := fun vs H Q _ => ∃ (kn x l d mo : Addr) (w0 : List Nat) (g : Game) (wn m : Nat) (seats : List (Nat × Nat)) (more : List Nat) (need : Int), vs = [.ref kn, .ref x, .ref mo, .int need] ∧ KnAt H kn w0 ∧ GameAt C H x l d g wn seats m ∧ H mo = some (.lst (more.map vN)) ∧ MoreOk g more ∧ InO w0 g seats ∧
  ∀ (b : Bool) (H' : Hp), (b = true ↔ need ≤ ((valM g more : Nat) : Int)) → KnAt H' kn w0 → But H H' kn → Q (.bl b) H'
def spMost (C : Addr) : Sp := fun vs H Q _ => ∃ (kn x l d : Addr) (w0 : List Nat) (g : Game) (wn m : Nat) (seats : List (Nat × Nat)), vs = [.ref kn, .ref x] ∧ KnAt H kn w0 ∧ GameAt C H x l d g wn seats m ∧ InO w0 g seats ∧
  ∀ H' : Hp, KnAt H' kn w0 → But H H' kn → Q (vN g.outcome) H'
theorem in_len (seats : List (Nat × Nat)) (s : Nat) : (inSuit seats s).length ≤ 13 := by
  unfold inSuit
  exact Nat.le_trans (List.length_filter_le _ _) (by rw [List.length_range']; exact Nat.le_refl _)
theorem plain_le (t : Nat) : (plainSuits t).length ≤ 4 := by
  unfold plainSuits
  exact Nat.le_trans (List.length_filter_le _ _) (by rw [List.length_range]; exact Nat.le_refl _)
theorem flat_len {I : Nat → List Nat} (h : ∀ s, (I s).length ≤ 13) : ∀ L : List Nat, (L.flatMap fun s => I s ++ [255]).length ≤ 14 * L.length
  | [] => by simp
  | a :: L => by
    have := flat_len h L
    have := h a
    rw [List.flatMap_cons, List.length_append, List.length_append, List.length_singleton, List.length_cons]
    omega
theorem cards_len (seats : List (Nat × Nat)) (t : Nat) : (cardsP seats t).length ≤ 69 := by
  unfold cardsP byPlace
  rw [List.length_append]
  have := flat_len (I := inSuit seats) (in_len seats) (plainSuits t)
  have := plain_le t
  have := in_len seats t
  omega
theorem order_len (seats : List (Nat × Nat)) (t : Nat) : (orderP seats t).length ≤ 69 := by unfold orderP; rw [List.length_map]; exact cards_len seats t
theorem InO.ord {w0 : List Nat} {g : Game} {seats : List (Nat × Nat)} {m : Nat} (h : InO w0 g seats) (S : SeatsOk m g seats) : OrdOk w0 (orderP seats g.trump) m :=
  ⟨h.1, S.okW, h.2.1, h.2.2, Nat.le_trans (order_len _ _) (by decide)⟩
theorem InO.self {g : Game} {seats : List (Nat × Nat)} {m : Nat} (S : SeatsOk m g seats) : InO (orderP seats g.trump) g seats := ⟨SubO.refl _, ⟨m, S.okW, S.m6⟩, S.signs⟩
theorem valM_le {g : Game} {seats : List (Nat × Nat)} {m : Nat} {more : List Nat} (S : SeatsOk m g seats) (h : MoreOk g more) : valM g more ≤ m := by
  rcases h with rfl | ⟨c, hc, rfl⟩
  · exact S.outcome_le
  · exact S.by_le hc
end PT

end
section
set_option Elab.async false
set_option linter.all false
set_option maxRecDepth 100000
set_option maxHeartbeats 2000000
namespace PT
open PySem PySem.Spec PyProof.Rows L2 LT
open PySem.W (Codec)
open Sy12 (Game suit)
def spGood (C : Addr) : Sp := fun vs H Q _ => ∃ (kn x l d : Addr) (w0 : List Nat) (g : Game) (wn m c : Nat) (seats : List (Nat × Nat)), vs = [.ref kn, .ref x, vN c, vN g.outcome] ∧ KnAt H kn w0 ∧ GameAt C H x l d g wn seats m ∧ InO w0 g seats ∧ c ∈ g.may ∧
  ∀ (b : Bool) (H' : Hp), (b = true ↔ g.by_ c = g.outcome) → KnAt H' kn w0 → But H H' kn → Q (.bl b) H'
/-- the least of the good cards -/
def Least (g : Game) (c : Nat) : Prop := c ∈ g.may ∧ g.by_ c = g.outcome ∧ ∀ y ∈ g.may, g.by_ y = g.outcome → c ≤ y
def spLeast (C : Addr) : Sp := fun vs H Q _ => ∃ (kn x l d : Addr) (w0 : List Nat) (g : Game) (wn m : Nat) (seats : List (Nat × Nat)), vs = [.ref kn, .ref x, vN g.outcome] ∧ KnAt H kn w0 ∧ GameAt C H x l d g wn seats m ∧ InO w0 g seats ∧ 1 ≤ m ∧
  ∀ (c : Nat) (H' : Hp), Least g c → KnAt H' kn w0 → But H H' kn → Q (vN c) H'
theorem good_even {m : Nat} {g : Game} (W : GOk m g) {c : Nat} (hc : c ∈ g.may) (e : g.turn % 2 = 0) : ((g.outcome : Int) ≤ (g.by_ c : Int)) ↔ g.by_ c = g.outcome := by
  have h := (outcome_best W (W.wf.pos_of ((may_iff g c).mp hc).1)).1
  rw [if_pos e] at h
  have := h c hc
  omega
theorem good_odd {m : Nat} {g : Game} (W : GOk m g) {c : Nat} (hc : c ∈ g.may) (e : ¬ g.turn % 2 = 0) : (¬ (g.outcome : Int) + 1 ≤ (g.by_ c : Int)) ↔ g.by_ c = g.outcome := by
  have h := (outcome_best W (W.wf.pos_of ((may_iff g c).mp hc).1)).1
  rw [if_neg e] at h
  have := h c hc
  omega
/-! ### the good cards, the least first -/
theorem may_nodup {m : Nat} {g : Game} (W : GOk m g) : g.may.Nodup := by
  have hn : (g.hand g.turn).Nodup := W.wf.nd _ (turn_lt4 g)
  unfold Game.may
  show (match g.trick with | [] => g.hand g.turn | c :: _ => if (g.hand g.turn).any (fun x => suit x == suit c) = true then (g.hand g.turn).filter (fun x => suit x == suit c) else g.hand g.turn).Nodup
  cases g.trick with
  | nil => exact hn
  | cons c r =>
    show (if (g.hand g.turn).any (fun x => suit x == suit c) = true then (g.hand g.turn).filter (fun x => suit x == suit c) else g.hand g.turn).Nodup
    split
    · exact hn.filter _
    · exact hn
theorem good_sorted {m : Nat} {g : Game} (W : GOk m g) {L : List Nat} (hL : Allowed g L) {p : Nat → Bool} (hp : ∀ c ∈ L, (p c = true ↔ g.by_ c = g.outcome)) : L.filter p = Sy12.sorted g.good := by
  have hn : g.good.Nodup := (may_nodup W).filter _
  refine rise_eq (hL.1.filter _) (sorted_rise hn) fun x => ?_
  rw [mem_sorted, List.mem_filter]
  unfold Game.good
  rw [List.mem_filter, beq_iff_eq, hL.2]
  constructor
  · rintro ⟨h1, h2⟩
    exact ⟨h1, (hp x ((hL.2 x).mpr h1)).mp h2⟩
  · rintro ⟨h1, h2⟩
    exact ⟨h1, (hp x ((hL.2 x).mpr h1)).mpr h2⟩
theorem allowed_len {m : Nat} {g : Game} (W : GOk m g) {L : List Nat} (hL : Allowed g L) : L.length ≤ m := by
  have hn : L.Nodup := by
    rw [List.nodup_iff_pairwise_ne]
    exact hL.1.imp fun {a b} h => by omega
  have := nd_len hn (l' := g.hand g.turn) fun x hx => ((may_iff g x).mp ((hL.2 x).mp hx)).1
  have e : (g.hand g.turn).length = m := W.wf.turnLen
  omega
theorem allowed_some {m : Nat} {g : Game} (W : GOk m g) {L : List Nat} (hL : Allowed g L) (hm : 1 ≤ m) : ∃ I z, L = I ++ [z] := by
  obtain ⟨c, hc⟩ := W.wf.may_ex (sg := suit) hm
  have hne : L ≠ [] := fun z => by
    have := (hL.2 c).mpr ((may_iff g c).mpr hc)
    rw [z] at this; cases this
  exact ⟨L.dropLast, L.getLast hne, (List.dropLast_concat_getLast hne).symm⟩
theorem sorted_head {g : Game} {c : Nat} (h : Least g c) {m : Nat} (W : GOk m g) : ∃ r, Sy12.sorted g.good = c :: r := by
  have hg : c ∈ Sy12.sorted g.good := by
    rw [mem_sorted]
    unfold Game.good
    rw [List.mem_filter, beq_iff_eq]; exact ⟨h.1, h.2.1⟩
  cases e : Sy12.sorted g.good with
  | nil => rw [e] at hg; cases hg
  | cons a r =>
    have hr := sorted_rise (l := g.good) ((may_nodup W).filter _)
    rw [e] at hr hg
    have ha : a ∈ g.good := mem_sorted.mp (by rw [e]; exact List.mem_cons_self)
    unfold Game.good at ha
    rw [List.mem_filter, beq_iff_eq] at ha
    have h1 := h.2.2 a ha.1 ha.2
    obtain ⟨p1, _⟩ := List.pairwise_cons.mp hr
    have : a = c := by
      rcases List.mem_cons.mp hg with z | z
      · exact z.symm
      · have := p1 c z; omega
    exact ⟨r, by rw [this]⟩
theorem play_left {m : Nat} {g : Game} (W : GOk m g) {c : Nat} (hc : c ∈ g.may) : g.left = (g.play c).1.left + 1 := by
  have h1 := left_eq W
  have h2 := left_eq (W.play hc)
  rw [play_trick_len] at h2
  have hm : 1 ≤ m := W.wf.pos_of ((may_iff g c).mp hc).1
  have h3 : g.trick.length < 4 := W.wf.len
  by_cases e : g.trick.length + 1 = 4
  · rw [if_pos e, if_pos e] at h2; omega
  · rw [if_neg e, if_neg e] at h2; omega
theorem line_cons {n : Nat} {g : Game} {c : Nat} {r : List Nat} (h : Sy12.sorted g.good = c :: r) : Sy12.line (n + 1) g = c :: Sy12.line n (g.play c).1 := by
  show (match Sy12.sorted g.good with | [] => [] | c :: _ => c :: Sy12.line n (g.play c).1) = _
  rw [h]
/-- one card of the line -/
theorem line_step {m : Nat} {g : Game} (W : GOk m g) {c : Nat} (h : Least g c) : Sy12.line g.left g = c :: Sy12.line (g.play c).1.left (g.play c).1 := by
  obtain ⟨r, e⟩ := sorted_head h W
  rw [play_left W h.1]
  exact line_cons e
theorem cut_last (I : List V) (z : V) : cutV (I ++ [z]) none (some (-1)) = I := by
  have h1 : HT.sIx (I ++ [z]).length 0 none = 0 := HT.sIx_none _ _
  have h2 : HT.sIx (I ++ [z]).length (I ++ [z]).length (some (-1)) = I.length := by
    have := HT.clip_eq (-1) (I ++ [z]).length (I ++ [z]).length
    rw [if_pos (by decide), List.length_append, List.length_singleton] at this
    rw [List.length_append, List.length_singleton]
    omega
  unfold cutV
  rw [h1, h2, List.drop_zero, Nat.sub_zero, List.take_left]
end PT

end
section
set_option Elab.async false
set_option linter.all false
set_option maxRecDepth 100000
set_option maxHeartbeats 2000000
namespace PT
open PySem PySem.Spec PyProof.Rows L2 LT
open PySem.W (Codec)
open Sy12 (Game suit)
open Sy12Neutral (nats)
section
variable {P : Program} {w : World} {K : PySem.W.Frag} {mg : Str → Option Value} {base : Heap} {C : Addr}
theorem scSuit : FnScope ["card"] ["card"] (defScope sSuit) := ⟨rfl, rfl, rfl, by decide +kernel, rfl, by decide +kernel, by decide +kernel⟩
theorem ok_suit {f : Addr} {fd : FuncData} (F : Fun K "suit_of" "suit_of" sSuit f fd) (T : Txt K mg C) : FnOk P w K mg base CX0 1 f fd ["card"] spSuit := by
  refine F.ok scSuit (fun vs H Q E h => ?_) (fun cdv A outer s H vs Q E hr h => ?_)
  · obtain ⟨c, rfl, _⟩ := h
    rfl
  obtain ⟨c, rfl, q⟩ := h
  obtain ⟨th, hH⟩ := T.gHEIGHTS
  refine ⟨_, pss_one (ps_ret (pe_op op_fdiv (pv 0) (pe_glob (v := .int 13) rfl hH ⟨_, rfl⟩))), ?_⟩
  refine ⟨_, rfl, _, _, rfl, rfl, ⟨by decide, by decide⟩, ?_⟩
  have e : ((c : Int) / 13) = ((suit c : Nat) : Int) := by unfold suit; omega
  show Q (V.int ((c : Int) / 13)) H
  rw [e]
  exact q

end
end PT

end
section
set_option Elab.async false
set_option linter.all false
set_option maxRecDepth 100000
set_option maxHeartbeats 2000000
namespace PT
open PySem PySem.Spec PyProof.Rows L2 LT
open PySem.W (Codec)
open Sy12 (Game suit)
open Sy12Neutral (nats)
section
variable {P : Program} {w : World} {K : PySem.W.Frag} {mg : Str → Option Value} {base : Heap} {C : Addr}
theorem scTurn : FnScope ["self"] ["self"] (defScope sTurn) := ⟨rfl, rfl, rfl, by decide +kernel, rfl, by decide +kernel, by decide +kernel⟩
theorem ok_turn {f : Addr} {fd : FuncData} (F : Fun K "turn" "Table.turn" sTurn f fd) (T : Txt K mg C) : FnOk P w K mg base CX0 1 f fd ["self"] (spTurn C) := by
  refine F.ok scTurn (fun vs H Q E h => ?_) (fun cdv A outer s H vs Q E hr h => ?_)
  · obtain ⟨x, l, d, tr, ld, wn, tk, seats, rfl, _⟩ := h
    rfl
  obtain ⟨x, l, d, tr, ld, wn, tk, seats, rfl, tb, q⟩ := h
  obtain ⟨⟨dx, h1⟩, h2, h3⟩ := tb
  obtain ⟨ts, hS⟩ := T.gSEATS
  refine ⟨_, pss_one (ps_ret (pe_op op_mod (pe_op op_add (pe_fld (pv 0) rfl) (pe_callB call_len_seq (by rfl) T.bLen PySem.boot_len (pa_cons (pe_fld (pv 0) rfl) pa_nil))) (pe_glob (v := .int 4) rfl hS ⟨_, rfl⟩))), ?_⟩
  refine ⟨_, rfl, x, C, dx, _, _, rfl, h1, T.cl, T.nLead, tf_lead, _, rfl, x, C, dx, _, _, rfl, h1, T.cl, T.nTrick, tf_trick, l, _, rfl, .inl (SqL.of h2), _, _, rfl, rfl, _, _, rfl, rfl, (by show (0 : Int) < 4; decide), ?_⟩
  have e : ((ld : Int) + (((tk.map vN).length : Nat) : Int)) % 4 = (((ld + tk.length) % 4 : Nat) : Int) := by rw [List.length_map]; omega
  show Q (V.int (((ld : Int) + (((tk.map vN).length : Nat) : Int)) % 4)) H
  rw [e]
  exact q
end
end PT

end
section
set_option Elab.async false
set_option linter.all false
set_option maxRecDepth 100000
set_option maxHeartbeats 2000000
namespace PT
open PySem PySem.Spec PyProof.Rows L2 LT
open PySem.W (Codec)
open Sy12 (Game suit)
open Sy12Neutral (nats)
section
variable {P : Program} {w : World} {K : PySem.W.Frag} {mg : Str → Option Value} {base : Heap} {C : Addr}
theorem scWin : FnScope ["trick", "trump", "trumps", "first_suit", "card"] ["trick", "trump"] (defScope sWin) := ⟨rfl, rfl, rfl, by decide +kernel, rfl, by decide +kernel, by decide +kernel⟩
theorem ok_win {f fS : Addr} {fd fdS : FuncData} (F : Fun K "winning_card" "winning_card" sWin f fd) (T : Txt K mg C) (FS : Fun K "suit_of" "suit_of" sSuit fS fdS) (bS : Binds K fdS ["card"] []) (mS : mg "suit_of" = some (.ref fS)) :
    FnOk P w K mg base CX0 2 f fd ["trick", "trump"] (spWin K) := by
  have GS : FnOk P w K mg base CX0 1 fS fdS ["card"] spSuit := ok_suit FS T
  refine F.ok scWin (fun vs H Q E h => ?_) (fun cdv A outer s H vs Q E hr h => ?_)
  · obtain ⟨l, P, t, rfl, _⟩ := h
    rfl
  obtain ⟨l, P, t, rfl, hS, hne, hlen, q⟩ := h
  refine ⟨_, pss_cons (ps_setLc (i := 2) rfl scWin.nd rfl rfl (sw_true rfl rfl rfl rfl) (pi_list (pv 0)) (blkOk_by (own := [("card", 4)]) (by kernel_rfl)) (fun _ _ _ _ _ => pg_name (i := 4) scWin.nd rfl (Or.inl rfl))
      (fun _ _ _ _ _ => pts_one (pt_cmpR op_eq (pe_call GS hr rfl mS FS.kp bS .nil pass0 (pa_cons (pv 4) pa_nil)) (pv 1) (nomark _))) (fun _ _ _ _ _ => pv 4))
    (pss_cons (ps_if (pt_cmpR op_gt (pe_callB call_len_seq (by rfl) T.bLen PySem.boot_len (pa_cons (pv 2) pa_nil)) pe_int (nomark _)) (pss_one (ps_ret (pe_callB (cr_max rfl) (by rfl) T.bMax boot_max (pa_cons (pv 2) pa_nil)))) pss_nil)
    (pss_cons (ps_set (i := 3) scWin.nd rfl (Or.inr rfl) (pe_call GS hr rfl mS FS.kp bS .nil pass0 (pa_cons (pe_ix ix_list (pv 0) pe_int (fun _ _ => rfl)) pa_nil)))
    (pss_one (ps_ret (pe_callB (cr_max rfl) (by rfl) T.bMax boot_max (pa_cons (pe_lc rfl scWin.nd (pi_list (pv 0)) (blkOk_by (own := [("card", 4)]) (by kernel_rfl)) (fun _ _ _ _ _ => pg_name (i := 4) scWin.nd rfl (Or.inl rfl))
      (fun _ _ _ _ _ => pts_one (pt_cmpR op_eq (pe_call GS hr rfl mS FS.kp bS .nil pass0 (pa_cons (pv 4) pa_nil)) (pv 3) (nomark _))) (fun _ _ _ _ _ => pv 4)) pa_nil)))))), ?_⟩
  -- trumps
  refine ⟨_, rfl, l, rfl, ⟨_, hS⟩, fun D hD => lc_list (K := K) (a := l) (xs := P.map vN) (fun i H' => Same H H' ∧ H' D = some (.lst (((P.take i).filter fun c => suit c == t).map vN)))
    ⟨same_new hD _, upd_same⟩ (fun i H' _ ⟨s1, _⟩ => s1.seq hS) ?_ ?_⟩
  · rintro i x H' hx ⟨s1, h1⟩
    obtain ⟨c, hc, rfl⟩ := map_at hx
    refine ⟨rfl, _, rfl, c, rfl, _, rfl, rfl, _, rfl, ?_⟩
    refine ite2 (fun e => ?_) (fun e => ?_)
    · refine ⟨_, rfl, _, h1, Nat.lt_of_le_of_lt (filt_len hlen) (by decide), same_upd s1 hD, ?_⟩
      rw [upd_same, filt_yes hc (by rw [beq_iff_eq]; exact dec_vN.mp e)]
    · refine ⟨s1, ?_⟩
      rw [h1, filt_no hc (by rw [beq_eq_false_iff_ne]; exact fun z => e (dec_vN.mpr z))]
  rintro H1 ⟨s1, h1⟩
  rw [List.length_map, filt_all rfl] at h1
  -- if len(trumps) > 0
  refine ⟨_, rfl, D, _, rfl, .inl (SqL.of h1), _, _, rfl, rfl, _, rfl, ?_⟩
  refine ite2 (fun e => ?_) (fun e => ?_)
  · have e := of_decide_eq_true e
    rw [List.length_map] at e
    rw [vN_map] at h1
    refine ⟨_, rfl, D, _, rfl, SqL.of h1, by rw [List.length_map]; omega, fun m hm hmax => ?_⟩
    obtain ⟨n, hn, rfl⟩ := List.mem_map.mp hm
    rw [List.mem_filter, beq_iff_eq] at hn
    refine q n H1 ⟨hn.1, .inl ⟨hn.2, fun y hy hs => ?_⟩⟩ s1
    have := hmax (y : Int) (List.mem_map.mpr ⟨y, List.mem_filter.mpr ⟨hy, by rw [beq_iff_eq]; exact hs⟩, rfl⟩)
    omega
  · have e : ¬ _ := fun z => e (decide_eq_true z)
    rw [List.length_map] at e
    have hno : ∀ y ∈ P, suit y ≠ t := fun y hy z => e (by
      have := List.length_pos_of_mem (List.mem_filter.mpr ⟨hy, by rw [beq_iff_eq]; exact z⟩ : y ∈ P.filter fun c => suit c == t)
      show (0 : Int) < _
      omega)
    obtain ⟨c0, r, rfl⟩ : ∃ c0 r, P = c0 :: r := by
      cases P with
      | nil => exact absurd rfl hne
      | cons a r => exact ⟨a, r, rfl⟩
    -- first_suit
    refine ⟨_, rfl, l, _, _, _, rfl, rfl, s1.seq hS, at_of (j := 0) rfl rfl, c0, rfl, ?_⟩
    -- max([..])
    refine ⟨_, rfl, l, rfl, ⟨_, s1.seq hS⟩, fun D2 hD2 => lc_list (K := K) (a := l) (xs := (c0 :: r).map vN) (fun i H' => Same H1 H' ∧ H' D2 = some (.lst ((((c0 :: r).take i).filter fun c => suit c == suit c0).map vN)))
      ⟨same_new hD2 _, upd_same⟩ (fun i H' _ ⟨s2, _⟩ => (s1.trans s2).seq hS) ?_ ?_⟩
    · rintro i x H' hx ⟨s2, h2⟩
      obtain ⟨c, hc, rfl⟩ := map_at hx
      refine ⟨rfl, _, rfl, c, rfl, _, rfl, rfl, _, rfl, ?_⟩
      refine ite2 (fun e => ?_) (fun e => ?_)
      · refine ⟨_, rfl, _, h2, Nat.lt_of_le_of_lt (filt_len hlen) (by decide), same_upd s2 hD2, ?_⟩
        rw [upd_same, filt_yes hc (by rw [beq_iff_eq]; exact dec_vN.mp e)]
      · refine ⟨s2, ?_⟩
        rw [h2, filt_no hc (by rw [beq_eq_false_iff_ne]; exact fun z => e (dec_vN.mpr z))]
    rintro H2 ⟨s2, h2⟩
    rw [List.length_map, filt_all rfl, vN_map] at h2
    refine ⟨D2, _, rfl, SqL.of h2, ?_, fun m hm hmax => ?_⟩
    · rw [List.length_map]
      exact List.length_pos_of_mem (List.mem_filter.mpr ⟨List.mem_cons_self, by rw [beq_iff_eq]⟩ : c0 ∈ (c0 :: r).filter fun c => suit c == suit c0)
    obtain ⟨n, hn, rfl⟩ := List.mem_map.mp hm
    rw [List.mem_filter, beq_iff_eq] at hn
    refine q n H2 ⟨hn.1, .inr ⟨hno, hn.2, fun y hy hs => ?_⟩⟩ (s1.trans s2)
    have := hmax (y : Int) (List.mem_map.mpr ⟨y, List.mem_filter.mpr ⟨hy, by rw [beq_iff_eq]; exact hs⟩, rfl⟩)
    omega
end
end PT

end
section
set_option Elab.async false
set_option linter.all false
set_option maxRecDepth 100000
set_option maxHeartbeats 2000000
namespace PT
open PySem PySem.Spec PyProof.Rows L2 LT
open PySem.W (Codec)
open Sy12 (Game suit)
open Sy12Neutral (nats)
section
variable {P : Program} {w : World} {K : PySem.W.Frag} {mg : Str → Option Value} {base : Heap} {C : Addr}
theorem scAllowed : FnScope ["self", "seat", "hand", "first_suit", "following", "card"] ["self"] (defScope sAllowed) := ⟨rfl, rfl, rfl, by decide +kernel, rfl, by decide +kernel, by decide +kernel⟩
theorem ok_allowed {f fS fT : Addr} {fd fdS fdT : FuncData} (F : Fun K "cards_allowed" "Table.cards_allowed" sAllowed f fd) (T : Txt K mg C) (FS : Fun K "suit_of" "suit_of" sSuit fS fdS) (bS : Binds K fdS ["card"] []) (mS : mg "suit_of" = some (.ref fS))
    (FT : Fun K "turn" "Table.turn" sTurn fT fdT) (bT : Binds K fdT ["self"] []) (mT : Meth K C "turn" fT) : FnOk P w K mg base CX0 2 f fd ["self"] (spAllowed C) := by
  have GS : FnOk P w K mg base CX0 1 fS fdS ["card"] spSuit := ok_suit FS T
  have GT : FnOk P w K mg base CX0 1 fT fdT ["self"] (spTurn C) := ok_turn FT T
  refine F.ok scAllowed (fun vs H Q E h => ?_) (fun cdv A outer s H vs Q E hr h => ?_)
  · obtain ⟨x, l, d, wn, m, g, seats, rfl, _⟩ := h
    rfl
  obtain ⟨x, l, d, wn, m, g, seats, rfl, tb, S, q⟩ := h
  have tb0 := tb
  obtain ⟨⟨dx, h1⟩, h2, h3⟩ := tb
  have hu := hu_of hr
  refine ⟨_, pss_cons (ps_set (i := 1) scAllowed.nd rfl (Or.inr rfl) (pe_meth0 (pv 0) T.cl mT GT hr bT .nil pass0))
    (pss_cons (ps_lock (ps_set (i := 2) scAllowed.nd rfl (Or.inl rfl) (pe_callB cr_sorted (by rfl) T.bSorted boot_sorted (pa_cons (pe_lc rfl scAllowed.nd (pi_keys (pe_fld (pv 0) rfl)) (blkOk_by (own := [("card", 5)]) (by kernel_rfl)) (fun _ _ _ _ _ => pg_name (i := 5) scAllowed.nd rfl (Or.inl rfl))
      (fun _ _ _ _ _ => pts_one (pt_cmpR op_eq (pe_dget (by exact hu) (pe_fldB (K := K) rfl (pv 0) rfl) (pv 5) (fun _ _ => rfl)) (pv 1) (nomark _))) (fun _ _ _ _ _ => pv 5)) pa_nil))))
    (pss_cons (ps_if (pt_cmpR op_eq (pe_callB call_len_seq (by rfl) T.bLen PySem.boot_len (pa_cons (pe_fld (pv 0) rfl) pa_nil)) pe_int (nomark _)) (pss_one (ps_ret (pv 2))) pss_nil)
    (pss_cons (ps_set (i := 3) scAllowed.nd rfl (Or.inr rfl) (pe_call GS hr rfl mS FS.kp bS .nil pass0 (pa_cons (pe_ix ix_list (pe_fld (pv 0) rfl) pe_int (fun _ _ => rfl)) pa_nil)))
    (pss_cons (ps_setLc (i := 4) rfl scAllowed.nd rfl rfl (sw_true rfl rfl rfl rfl) (pi_list (pv 2)) (blkOk_by (own := [("card", 5)]) (by kernel_rfl)) (fun _ _ _ _ _ => pg_name (i := 5) scAllowed.nd rfl (Or.inl rfl))
      (fun _ _ _ _ _ => pts_one (pt_cmpR op_eq (pe_call GS hr rfl mS FS.kp bS .nil pass0 (pa_cons (pv 5) pa_nil)) (pv 3) (nomark _))) (fun _ _ _ _ _ => pv 5))
    (pss_one (ps_ret (pe_ifExp (pt_cmpR op_gt (pe_callB call_len_seq (by rfl) T.bLen PySem.boot_len (pa_cons (pv 4) pa_nil)) pe_int (nomark _)) (pv 4) (pv 2)))))))), ?_⟩
  -- seat = self.turn()
  refine ⟨_, rfl, x, dx, _, rfl, h1, tf_no (by decide +kernel) (by decide +kernel) (by decide +kernel) (by decide +kernel) (by decide +kernel), x, l, d, g.trump, g.first, wn, g.trick, seats, rfl, tb0, ?_⟩
  -- hand = sorted([..])
  refine ⟨d, _, h3, trivial, fun od => ?_⟩
  have nxd : x ≠ d := tb0.xd
  refine ⟨_, rfl, x, C, dx, _, _, rfl, (by rw [upd_ne nxd]; exact h1), T.cl, T.nSeat, tf_seat, d, od, rfl, .inl ⟨_, upd_same, fun D hD => lc_keys
    (fun i H' => Same (upd H d (.frz od (.dK (seats.map kvN)))) H' ∧ H' D = some (.lst (((seats.take i).filter fun p => p.2 == g.turn).map fun p => vN p.1)))
    ⟨same_new hD _, upd_same⟩ (fun i H' _ ⟨s1, _⟩ => s1 _ _ upd_same) ?_ ?_⟩⟩
  · rintro i k v H' hk ⟨s1, hD1⟩
    obtain ⟨p, hp, ep⟩ := map_at hk
    obtain ⟨c, sc⟩ := p
    cases ep
    have hx1 : H' x = some (.ins C dx (tf g.trump g.first l wn d)) := s1 _ _ (by rw [upd_ne nxd]; exact h1)
    refine ⟨rfl, _, rfl, x, C, dx, _, _, rfl, hx1, T.cl, T.nSeat, tf_seat, _, rfl, d, vN sc, rfl, .inl ⟨_, Sum.inl (c : Int), .inr ⟨od, s1 _ _ upd_same⟩, rfl, (valV_seats S.nd (List.mem_of_getElem? hp)).symm⟩, _, rfl, rfl, _, rfl, ?_⟩
    have hlen : seats.length ≤ 24 := by have := S.length; have := S.m6; omega
    refine ite2 (fun e => ?_) (fun e => ?_)
    · refine ⟨_, rfl, _, hD1, Nat.lt_of_le_of_lt (filt_len hlen) (by decide), same_upd s1 hD, ?_⟩
      have e' : ((c, sc).2 == g.turn) = true := by rw [beq_iff_eq]; exact dec_vN.mp e
      rw [upd_same]
      exact congrArg (fun z => some (HO.lst z)) (filt_yes (f := fun p : Nat × Nat => vN p.1) hp e')
    · refine ⟨s1, ?_⟩
      have e' : ((c, sc).2 == g.turn) = false := by rw [beq_eq_false_iff_ne]; exact fun z => e (dec_vN.mpr z)
      rw [hD1]
      exact congrArg (fun z => some (HO.lst z)) (filt_no (f := fun p : Nat × Nat => vN p.1) hp e')
  rintro H1 ⟨s1, hD1⟩
  rw [List.length_map, filt_all rfl] at hD1
  have hF : ((seats.filter fun p => p.2 == g.turn).map fun p => vN p.1) = (((seats.filter fun p => p.2 == g.turn).map (·.1)).map (fun n : Nat => (n : Int))).map V.int := by
    rw [List.map_map, List.map_map]; rfl
  rw [hF] at hD1
  have hlen : (seats.filter fun p => p.2 == g.turn).length ≤ 24 := by
    have := S.length; have := S.m6
    have := List.length_filter_le (fun p : Nat × Nat => p.2 == g.turn) seats
    omega
  refine ⟨D, _, rfl, SqL.of hD1, by rw [List.length_map, List.length_map]; omega, fun ns' p hperm hsort hp => ?_⟩
  have hpd : d ≠ p := ne_of_none (s1 _ _ upd_same) hp
  refine ⟨by rw [upd_ne hpd]; exact s1 _ _ upd_same, ?_⟩
  obtain ⟨L, rfl, hL⟩ := perm_nat hperm
  have hnd : L.Nodup := by
    refine hL.nodup_iff.mpr ?_
    exact (S.nd.sublist ((List.filter_sublist).map _))
  have hrise := rise_of hsort hnd
  have hmem : ∀ c, c ∈ L ↔ c ∈ g.hand g.turn := fun c => by
    rw [hL.mem_iff, List.mem_map, ← S.hand]
    constructor
    · rintro ⟨⟨a, b⟩, hm, rfl⟩
      rw [List.mem_filter, beq_iff_eq] at hm
      obtain ⟨hm1, hm2⟩ := hm
      have hm2 : b = g.turn := hm2
      subst hm2; exact hm1
    · exact fun h => ⟨_, List.mem_filter.mpr ⟨h, by rw [beq_iff_eq]⟩, rfl⟩
  generalize hH2 : upd (upd H1 p (.lst ((L.map (fun n : Nat => (n : Int))).map V.int))) d (.dK (seats.map kvN)) = H2
  have s2 : Same H H2 := fun b o e => by
    rw [← hH2]
    by_cases hb : b = d
    · rw [hb] at e ⊢; rw [upd_same, ← e]; exact h3.symm
    · have e1 := s1 b o (by rw [upd_ne hb]; exact e)
      rw [upd_ne hb, upd_ne (ne_of_none e1 hp)]
      exact e1
  have hp2 : H2 p = some (.lst (L.map vN)) := by
    rw [← hH2, upd_ne (Ne.symm hpd), upd_same, ← vN_map]
  have hLlen : L.length ≤ 24 := by rw [hL.length_eq, List.length_map]; exact hlen
  -- if len(self.trick) == 0
  refine ⟨_, rfl, x, C, dx, _, _, rfl, s2 _ _ h1, T.cl, T.nTrick, tf_trick, l, _, rfl, .inl (SqL.of (s2 _ _ h2)), rfl, _, rfl, ?_⟩
  refine ite2 (fun e => ?_) (fun e => ?_)
  · have e := of_decide_eq_true e
    have e0 : g.trick = [] := by
      have : (((g.trick.map vN).length : Nat) : Int) = 0 := by injection e
      rw [List.length_map] at this
      exact List.length_eq_zero_iff.mp (by omega)
    refine ⟨_, rfl, q L p H2 ⟨hrise, fun c => ?_⟩ s2 hp2⟩
    rw [hmem, may_hand e0]
  · obtain ⟨c0, r, htr⟩ : ∃ c0 r, g.trick = c0 :: r := by
      cases ht : g.trick with
      | nil => exact absurd (decide_eq_true (by rw [ht]; rfl)) e
      | cons a r => exact ⟨a, r, rfl⟩
    refine ⟨_, rfl, x, C, dx, _, _, rfl, s2 _ _ h1, T.cl, T.nTrick, tf_trick, l, _, _, _, rfl, rfl, SqL.of (s2 _ _ h2), at_of (j := 0) rfl (by rw [htr]; rfl), c0, rfl, ?_⟩
    refine ⟨_, rfl, p, rfl, ⟨_, SqL.of hp2⟩, fun D2 hD2 => lc_list (K := K) (a := p) (xs := L.map vN) (fun i H' => Same H2 H' ∧ H' D2 = some (.lst (((L.take i).filter fun c => suit c == suit c0).map vN)))
      ⟨same_new hD2 _, upd_same⟩ (fun i H' _ ⟨s3, _⟩ => SqL.of (s3 _ _ hp2)) ?_ ?_⟩
    · rintro i y H' hy ⟨s3, h4⟩
      obtain ⟨c, hc, rfl⟩ := map_at hy
      refine ⟨rfl, _, rfl, c, rfl, _, rfl, rfl, _, rfl, ?_⟩
      refine ite2 (fun e => ?_) (fun e => ?_)
      · refine ⟨_, rfl, _, h4, Nat.lt_of_le_of_lt (filt_len hLlen) (by decide), same_upd s3 hD2, ?_⟩
        rw [upd_same, filt_yes hc (by rw [beq_iff_eq]; exact dec_vN.mp e)]
      · refine ⟨s3, ?_⟩
        rw [h4, filt_no hc (by rw [beq_eq_false_iff_ne]; exact fun z => e (dec_vN.mpr z))]
    rintro H3 ⟨s3, h4⟩
    rw [List.length_map, filt_all rfl] at h4
    refine ⟨_, rfl, D2, _, rfl, .inl (SqL.of h4), _, _, rfl, rfl, _, rfl, ?_⟩
    refine ite2 (fun e => ?_) (fun e => ?_)
    · have e := of_decide_eq_true e
      rw [List.length_map] at e
      refine ⟨_, rfl, q _ D2 H3 ⟨hrise.filter _, fun c => ?_⟩ (s2.trans s3) h4⟩
      obtain ⟨y, hy⟩ := List.exists_mem_of_length_pos (l := L.filter fun c => suit c == suit c0) (by omega)
      rw [List.mem_filter, beq_iff_eq, hmem] at hy
      rw [List.mem_filter, beq_iff_eq, hmem, may_follow htr]
      constructor
      · exact fun z => ⟨z.1, .inl z.2⟩
      · rintro ⟨z1, z2 | z2⟩
        · exact ⟨z1, z2⟩
        · exact absurd hy.2 (z2 y hy.1)
    · have e : ¬ _ := fun z => e (decide_eq_true z)
      rw [List.length_map] at e
      refine ⟨_, rfl, q _ p H3 ⟨hrise, fun c => ?_⟩ (s2.trans s3) (s3 _ _ hp2)⟩
      rw [hmem, may_follow htr]
      refine ⟨fun z => ⟨z, .inr fun y hy z2 => e ?_⟩, fun z => z.1⟩
      have := List.length_pos_of_mem (List.mem_filter.mpr ⟨(hmem y).mpr hy, by rw [beq_iff_eq]; exact z2⟩ : y ∈ L.filter fun c => suit c == suit c0)
      show (0 : Int) < _
      omega
end
end PT

end
section
set_option Elab.async false
set_option linter.all false
set_option maxRecDepth 100000
set_option maxHeartbeats 2000000
namespace PT
open PySem PySem.Spec PyProof.Rows L2 LT
open PySem.W (Codec)
open Sy12 (Game suit)
open Sy12Neutral (nats)
section
variable {P : Program} {w : World} {K : PySem.W.Frag} {mg : Str → Option Value} {base : Heap} {C : Addr}
theorem scInit : FnScope ["self", "k", "trump", "lead", "cards", "dealt", "card"] ["self", "k", "trump", "lead", "cards"] (defScope sInit) := ⟨rfl, rfl, rfl, by decide +kernel, rfl, by decide +kernel, by decide +kernel⟩
theorem ok_init {f : Addr} {fd : FuncData} (F : Fun K "__init__" "Table.__init__" sInit f fd) (T : Txt K mg C) : FnOk P w K mg base CX0 1 f fd ["self", "k", "trump", "lead", "cards"] (spInit K C) := by
  refine F.ok scInit (fun vs H Q E h => ?_) (fun cdv A outer s H vs Q E hr h => ?_)
  · obtain ⟨x, dx, a, k, t, f, ns, rfl, _⟩ := h
    rfl
  obtain ⟨x, dx, a, k, t, f, ns, rfl, hx, hA, hk1, hk6, hnd, hlen, q⟩ := h
  have hu := hu_of hr
  refine ⟨_, pss_cons (ps_fld (pv 0) (pv 2) rfl) (pss_cons (ps_fld (pv 0) (pv 3) rfl) (pss_cons (ps_fld (pv 0) (pe_lst pa_nil) rfl) (pss_cons (ps_fld (pv 0) pe_int rfl) (pss_cons (ps_fld (pv 0) pe_dnewK rfl)
    (pss_one (ps_for PassesOwn.never rfl (pi_enum (by rfl) T.bEnum (pa_cons (pv 4) pa_nil)) (pg_tup rfl (pgs_cons (pg_name (i := 5) scInit.nd rfl (Or.inl rfl)) (pgs_cons (pg_name (i := 6) scInit.nd rfl (Or.inl rfl)) pgs_nil)))
      (pss_one (ps_dput (by exact hu) (pe_fld (pv 0) rfl) (pv 6) (pe_op op_fdiv (pv 5) (pv 1)) rfl)))))))), ?_⟩
  refine ⟨_, rfl, _, rfl, x, C, dx, _, rfl, hx, T.cl, T.nTrump, (by show 0 < 1000; decide), ?_⟩
  refine ⟨_, rfl, _, rfl, x, C, dx, _, rfl, upd_same, T.cl, T.nLead, (by show 1 < 1000; decide), ?_⟩
  rw [upd_upd]
  refine ⟨(by show 0 ≤ sizeLine; decide), fun l hl => ?_⟩
  have nxl : x ≠ l := ne_of_none upd_same hl
  refine ⟨_, rfl, x, C, dx, _, rfl, (by rw [upd_ne nxl, upd_same]), T.cl, T.nTrick, (by show 2 < 1000; decide), ?_⟩
  refine ⟨_, rfl, x, C, dx, _, rfl, upd_same, T.cl, T.nWon, (by show 3 < 1000; decide), ?_⟩
  rw [upd_upd]
  intro d hd
  have nxd : x ≠ d := ne_of_none upd_same hd
  refine ⟨_, rfl, x, C, dx, _, rfl, (by rw [upd_ne nxd, upd_same]), T.cl, T.nSeat, (by show 4 < 1000; decide), ?_⟩
  have ef : putF "seat_of" (V.ref d) (putF "won" (V.int 0) (putF "trick" (V.ref l) (putF "lead" (vN f) (putF "trump" (vN t) [])))) = tf t f l ((0 : Nat) : Int) d := by
    have e1 : putF "lead" (vN f) (putF "trump" (vN t) []) = ([("trump", vN t), ("lead", vN f)] : List (Str × V)) := by rw [pf_nil, pf_ne (by decide +kernel), pf_nil]
    have e2 : putF "trick" (V.ref l) [("trump", vN t), ("lead", vN f)] = ([("trump", vN t), ("lead", vN f), ("trick", V.ref l)] : List (Str × V)) := by rw [pf_ne (by decide +kernel), pf_ne (by decide +kernel), pf_nil]
    have e3 : putF "won" (V.int 0) [("trump", vN t), ("lead", vN f), ("trick", V.ref l)] = ([("trump", vN t), ("lead", vN f), ("trick", V.ref l), ("won", V.int 0)] : List (Str × V)) := by
      rw [pf_ne (by decide +kernel), pf_ne (by decide +kernel), pf_ne (by decide +kernel), pf_nil]
    rw [e1, e2, e3, pf_ne (by decide +kernel), pf_ne (by decide +kernel), pf_ne (by decide +kernel), pf_ne (by decide +kernel), pf_nil]
    rfl
  have hl0 : H l = none := by rw [upd_ne (Ne.symm nxl)] at hl; exact hl
  have nld : l ≠ d := by
    refine ne_of_none (H := upd (upd (upd H x _) l (.lst [])) x _) (o := .lst []) ?_ hd
    rw [upd_ne (Ne.symm nxl), upd_same]
  have hd0 : H d = none := by
    rw [upd_ne (Ne.symm nxd), upd_ne (Ne.symm nld), upd_ne (Ne.symm nxd)] at hd; exact hd
  generalize hH1 : upd (upd (upd (upd (upd H x _) l (.lst [])) x _) d (.dK [])) x _ = H1
  rw [ef] at hH1
  have hx1 : H1 x = some (.ins C dx (tf t f l ((0 : Nat) : Int) d)) := by rw [← hH1, upd_same]
  have hl1 : H1 l = some (.lst []) := by rw [← hH1, upd_ne (Ne.symm nxl), upd_ne nld, upd_ne (Ne.symm nxl), upd_same]
  have hd1 : H1 d = some (.dK []) := by rw [← hH1, upd_ne (Ne.symm nxd), upd_same]
  have kp : ∀ b o, H b = some o → b ≠ x → H1 b = some o := fun b o e hb => by
    rw [← hH1, upd_ne hb, upd_ne (ne_of_none e hd0), upd_ne hb, upd_ne (ne_of_none e hl0), upd_ne hb]; exact e
  have hA1 : FzL K H1 a (ns.map vN) := by
    rcases hA with ⟨o, h⟩ | h
    · exact .inl ⟨o, kp _ _ h (ne_of h hx (by intro z; cases z))⟩
    · exact .inr h
  have nad : FzL K H1 a (ns.map vN) → ∀ H' : Hp, (∀ b o, H1 b = some o → b ≠ d → H' b = some o) → FzL K H' a (ns.map vN) := fun h H' k4 => by
    rcases h with ⟨o, h⟩ | h
    · exact .inl ⟨o, k4 _ _ h (ne_of h hd1 (by intro z; cases z))⟩
    · exact .inr h
  refine ⟨_, rfl, a, _, rfl, hA1.sq, for_enum (K := K) (a := a) (xs := ns.map vN)
    (fun i σ H' => ∃ v5 v6 : Option V, σ = [some (.ref x), some (vN k), some (vN t), some (vN f), some (.ref a), v5, v6] ∧ H' d = some (.dK (((dealS ns k).take i).map kvN)) ∧ ∀ b o, H1 b = some o → b ≠ d → H' b = some o)
    ⟨none, none, rfl, hd1, fun b o e _ => e⟩ (fun i σ H' _ ⟨_, _, _, _, k4⟩ => (nad hA1 H' k4).sq) ?_ ?_⟩
  · rintro i y σ H' T' hy ⟨v5, v6, rfl, hd4, k4⟩ hT'
    obtain ⟨c, hc, rfl⟩ := map_at hy
    have s4 : Same H' (upd H' T' (.tup [.int (i : Nat), vN c])) := same_new hT' _
    refine ⟨T', _, rfl, SqT.of upd_same, rfl, _, _, rfl, _, _, rfl, rfl, ?_⟩
    have hi := (List.getElem?_eq_some_iff.mp hc).1
    refine ⟨_, rfl, _, rfl, _, _, rfl, rfl, ⟨by omega, by omega⟩, _, rfl, x, C, dx, _, _, rfl, s4 _ _ (k4 _ _ hx1 nxd), T.cl, T.nSeat, tf_seat, _, rfl, d, _, rfl, DPut.k (k := Sum.inl (c : Int)) (s4 _ _ hd4) (by rw [List.length_map, List.length_take, dealS_len]; exact small1000 (by omega)), ?_⟩
    refine ⟨_, _, rfl, ?_, fun b o e hb => by rw [upd_ne hb]; exact s4 _ _ (k4 _ _ e hb)⟩
    rw [upd_same, putK_new _ (valV_no (dealS_new hnd hc)), take_more (dealS_at hc), List.map_append]
    have : ((i : Nat) : Int) / (k : Int) = ((i / k : Nat) : Int) := by simp
    show some (HO.dK (_ ++ [(Sum.inl (c : Int), V.int ((i : Int) / (k : Int)))])) = _
    rw [this]; rfl
  · rintro σ H' ⟨v5, v6, rfl, hd4, k4⟩
    rw [List.length_map, ← dealS_len ns k, List.take_length] at hd4
    exact q H' l d ⟨⟨dx, k4 _ _ hx1 nxd⟩, k4 _ _ hl1 nld, hd4⟩ (fun b o e hb => k4 _ _ (kp b o e hb) (ne_of_none e hd0)) hl0 hd0
end
end PT

end
section
set_option Elab.async false
set_option linter.all false
set_option maxRecDepth 100000
set_option maxHeartbeats 2000000
namespace PT
open PySem PySem.Spec PyProof.Rows L2 LT
open PySem.W (Codec)
open Sy12 (Game suit)
open Sy12Neutral (nats)
section
variable {P : Program} {w : World} {K : PySem.W.Frag} {mg : Str → Option Value} {base : Heap} {C : Addr}
theorem scDeal : FnScope ["k", "trump", "lead", "cards", "card"] ["k", "trump", "lead", "cards"] (defScope sDeal) := ⟨rfl, rfl, rfl, by decide +kernel, rfl, by decide +kernel, by decide +kernel⟩
theorem ok_deal {f : Addr} {fd : FuncData} (F : Fun K "is_deal" "is_deal" sDeal f fd) (T : TxtD K mg) : FnOk P w K mg base CX0 1 f fd ["k", "trump", "lead", "cards"] (spDeal K) := by
  refine F.ok scDeal (fun vs H Q E h => ?_) (fun cdv A outer s H vs Q E hr h => ?_)
  · obtain ⟨a, k, t, f, cs, rfl, _⟩ := h
    rfl
  obtain ⟨a, k, t, f, cs, rfl, hS, hlen, q⟩ := h
  obtain ⟨t1, gM⟩ := T.gMOST
  obtain ⟨t2, gU⟩ := T.gSUITS
  obtain ⟨t3, gS⟩ := T.gSEATS
  obtain ⟨t4, gH⟩ := T.gHEIGHTS
  refine ⟨_, pss_cons (ps_if (PW.pt (pw_or (pt_cmpR op_lt (pv 0) pe_int (nomark _)) (pw_or1 (pt_cmpR op_gt (pv 0) (pe_glob (v := .int 6) rfl gM ⟨_, rfl⟩) (nomark _))))) (pss_one (ps_ret pe_bl)) pss_nil)
    (pss_cons (ps_if (PW.pt (pw_or (pt_cmpR op_lt (pv 1) pe_int (nomark _)) (pw_or1 (pt_cmpR op_gt (pv 1) (pe_glob (v := .int 4) rfl gU ⟨_, rfl⟩) (nomark _))))) (pss_one (ps_ret pe_bl)) pss_nil)
    (pss_cons (ps_if (PW.pt (pw_or (pt_cmpR op_lt (pv 2) pe_int (nomark _)) (pw_or1 (pt_cmpR op_ge (pv 2) (pe_glob (v := .int 4) rfl gS ⟨_, rfl⟩) (nomark _))))) (pss_one (ps_ret pe_bl)) pss_nil)
    (pss_cons (ps_if (pt_val (pe_callB (cr_any rfl) (by rfl) T.bAny boot_any (pa_cons (pe_lc rfl scDeal.nd (pi_list (pv 3)) (blkOk_by (own := [("card", 4)]) (by kernel_rfl)) (fun _ _ _ _ _ => pg_name (i := 4) scDeal.nd rfl (Or.inl rfl)) (fun _ _ _ _ _ => pts_nil)
        (fun _ _ _ _ _ => pe_or (pe_cmpR op_lt (pv 4) pe_int (nomark _)) (pe_one (pe_cmpR op_ge (pv 4) (pe_op op_mul (pe_glob (v := .int 4) rfl gU ⟨_, rfl⟩) (pe_glob (v := .int 13) rfl gH ⟨_, rfl⟩)) (nomark _))))) pa_nil))) (pss_one (ps_ret pe_bl)) pss_nil)
    (pss_one (ps_ret (pe_cmpR op_eq (pe_callB call_lenSet (by rfl) T.bLen PySem.boot_len (pa_cons (pe_callTy (call_setI rfl) (by rfl) T.bSet (by decide +kernel) (pa_cons (pv 3) pa_nil)) pa_nil)) (pe_callB call_len_seq (by rfl) T.bLen PySem.boot_len (pa_cons (pv 3) pa_nil)) (nomark _))))))), ?_⟩
  refine ⟨_, rfl, _, _, rfl, rfl, _, rfl, ?_⟩
  refine ite2 (fun c => iteT (q false H ⟨fun z => Bool.noConfusion z, fun z => absurd z.1.1 (by have := of_decide_eq_true c; omega)⟩ (Same.refl H))) (fun c1 => ?_)
  refine ⟨_, rfl, _, _, rfl, rfl, _, rfl, ?_⟩
  refine ite2 (fun c => q false H ⟨fun z => Bool.noConfusion z, fun z => absurd z.1.2 (by have := of_decide_eq_true c; omega)⟩ (Same.refl H)) (fun c2 => ?_)
  have hk : 1 ≤ k ∧ k ≤ 6 := by
    have c1 : ¬ k < 1 := fun z => c1 (decide_eq_true z)
    have c2 : ¬ 6 < k := fun z => c2 (decide_eq_true z)
    omega
  refine ⟨_, rfl, _, _, rfl, rfl, _, rfl, ?_⟩
  refine ite2 (fun c => iteT (q false H ⟨fun z => Bool.noConfusion z, fun z => absurd z.2.1.1 (by have := of_decide_eq_true c; omega)⟩ (Same.refl H))) (fun c1 => ?_)
  refine ⟨_, rfl, _, _, rfl, rfl, _, rfl, ?_⟩
  refine ite2 (fun c => q false H ⟨fun z => Bool.noConfusion z, fun z => absurd z.2.1.2 (by have := of_decide_eq_true c; omega)⟩ (Same.refl H)) (fun c2 => ?_)
  have ht : 0 ≤ t ∧ t ≤ 4 := by
    have c1 : ¬ t < 0 := fun z => c1 (decide_eq_true z)
    have c2 : ¬ 4 < t := fun z => c2 (decide_eq_true z)
    omega
  refine ⟨_, rfl, _, _, rfl, rfl, _, rfl, ?_⟩
  refine ite2 (fun c => iteT (q false H ⟨fun z => Bool.noConfusion z, fun z => absurd z.2.2.1.1 (by have := of_decide_eq_true c; omega)⟩ (Same.refl H))) (fun c1 => ?_)
  refine ⟨_, rfl, _, _, rfl, rfl, _, rfl, ?_⟩
  refine ite2 (fun c => q false H ⟨fun z => Bool.noConfusion z, fun z => absurd z.2.2.1.2 (by have := of_decide_eq_true c; omega)⟩ (Same.refl H)) (fun c2 => ?_)
  have hf : 0 ≤ f ∧ f < 4 := by
    have c1 : ¬ f < 0 := fun z => c1 (decide_eq_true z)
    have c2 : ¬ 4 ≤ f := fun z => c2 (decide_eq_true z)
    omega
  -- any([..])
  refine ⟨_, rfl, a, rfl, ⟨_, hS⟩, fun D hD => lc_list (K := K) (a := a) (xs := cs.map V.int) (fun i H' => Same H H' ∧ H' D = some (.lst (((cs.take i).map fun c => decide (c < 0) || decide (52 ≤ c)).map V.bl)))
    ⟨same_new hD _, upd_same⟩ (fun i H' _ ⟨s1, _⟩ => s1.seq hS) ?_ ?_⟩
  · rintro i x H' hx ⟨s1, h1⟩
    obtain ⟨c, hc, rfl⟩ := map_at hx
    refine ⟨rfl, tYes_of ?_⟩
    have key : ∀ b : Bool, b = (decide (c < 0) || decide (52 ≤ c)) → ∃ acc, H' D = some (.lst acc) ∧ acc.length < sizeLine ∧ (Same H (upd H' D (.lst (acc ++ [V.bl b]))) ∧ (upd H' D (.lst (acc ++ [V.bl b]))) D = some (.lst (((cs.take (i + 1)).map fun c => decide (c < 0) || decide (52 ≤ c)).map V.bl))) := fun b hb => by
      refine ⟨_, h1, by rw [List.length_map, List.length_map, List.length_take]; exact small1000 (by omega), same_upd s1 hD, ?_⟩
      rw [upd_same, take_more hc, List.map_append, List.map_append, hb]; rfl
    refine ⟨_, rfl, _, _, rfl, rfl, _, rfl, ite2 (fun c1 => ?_) (fun c1 => ?_)⟩
    · exact key true (by rw [c1]; rfl)
    · refine ⟨_, rfl, _, _, rfl, rfl, .inl ⟨by decide, by decide⟩, _, _, rfl, rfl, ?_⟩
      refine key _ ?_
      rw [Bool.eq_false_iff.mpr c1, Bool.false_or]; rfl
  rintro H1 ⟨s1, h1⟩
  rw [List.length_map, List.take_length] at h1
  refine ⟨D, _, rfl, SqL.of h1, _, rfl, ?_⟩
  have hall : ((cs.map fun c => decide (c < 0) || decide (52 ≤ c)).any id = true) ↔ ¬ ∀ c ∈ cs, 0 ≤ c ∧ c < 52 := by
    rw [List.any_eq_true]
    constructor
    · rintro ⟨b, hb, e⟩ z
      obtain ⟨c, hc, rfl⟩ := List.mem_map.mp hb
      have := z c hc
      have e : (decide (c < 0) || decide (52 ≤ c)) = true := e
      rw [Bool.or_eq_true, decide_eq_true_iff, decide_eq_true_iff] at e
      omega
    · intro z
      refine Classical.byContradiction fun y => z fun c hc => ?_
      refine Classical.byContradiction fun x => y ⟨_, List.mem_map.mpr ⟨c, hc, rfl⟩, ?_⟩
      show (decide (c < 0) || decide (52 ≤ c)) = true
      rw [Bool.or_eq_true, decide_eq_true_iff, decide_eq_true_iff]
      omega
  refine ite2 (fun c => q false H1 ⟨fun z => Bool.noConfusion z, fun z => absurd z.2.2.2.1 (hall.mp c)⟩ s1) (fun c => ?_)
  have hc : ∀ c ∈ cs, 0 ≤ c ∧ c < 52 := Classical.byContradiction fun z => c (hall.mpr z)
  refine ⟨_, rfl, a, cs, rfl, s1.seq hS, (by unfold scanBound; omega), fun S p hp => ?_⟩
  have hle := firstMet_length_le (fun i => cs.getD i 0) cs.length
  have s2 : Same H1 (upd H1 p (.set S (firstMet (fun i => cs.getD i 0) cs.length).length)) := same_new hp _
  refine ⟨p, S, _, rfl, upd_same, (by omega), _, rfl, a, _, rfl, .inl (s2.seq (s1.seq hS)), rfl, ?_⟩
  refine q _ _ ?_ (s1.trans s2)
  rw [decide_eq_true_iff]
  have hnd := firstMet_nodup cs cs.length (Nat.le_refl _)
  rw [List.take_length] at hnd
  rw [List.length_map]
  constructor
  · intro z
    have z : (((firstMet (fun i => cs.getD i 0) cs.length).length : Nat) : Int) = ((cs.length : Nat) : Int) := by injection z
    exact ⟨hk, ht, hf, hc, hnd.mp (by omega)⟩
  · intro z
    rw [hnd.mpr z.2.2.2.2]

end
end PT

end
section
set_option Elab.async false
set_option linter.all false
set_option maxRecDepth 100000
set_option maxHeartbeats 2000000
namespace PT
open PySem PySem.Spec PyProof.Rows L2 LT
open PySem.W (Codec)
open Sy12 (Game suit)
open Sy12Neutral (nats)
section
variable {P : Program} {w : World} {K : PySem.W.Frag} {mg : Str → Option Value} {base : Heap} {C : Addr}
theorem scEnd : FnScope ["self", "over", "card"] ["self"] (defScope sEnd) := ⟨rfl, rfl, rfl, by decide +kernel, rfl, by decide +kernel, by decide +kernel⟩
theorem ok_end {f fW : Addr} {fd fdW : FuncData} (F : Fun K "end_trick" "Table.end_trick" sEnd f fd) (T : Txt K mg C) (GW : ∀ {P : Program} {w : World} {base : Heap}, FnOk P w K mg base CX0 2 fW fdW ["trick", "trump"] (spWin K)) (kW : PySem.W.keepIn K (.ref fW) = true)
    (bW : Binds K fdW ["trick", "trump"] []) (mW : mg "winning_card" = some (.ref fW)) : FnOk P w K mg base CX0 3 f fd ["self"] (spEnd C) := by
  refine F.ok scEnd (fun vs H Q E h => ?_) (fun cdv A outer s H vs Q E hr h => ?_)
  · obtain ⟨x, l, d, wn, m, c, g, seats, rfl, _⟩ := h
    rfl
  obtain ⟨x, l, d, wn, m, c, g, seats, rfl, tb, S, hc, hl3, q⟩ := h
  have tb0 := tb
  obtain ⟨⟨dx, h1⟩, h2, h3⟩ := tb
  have hu := hu_of hr
  refine ⟨_, pss_cons (ps_set (i := 1) scEnd.nd rfl (Or.inl rfl) (pe_fld (pv 0) rfl))
    (pss_cons (ps_fld (pv 0) (pe_dget (by exact hu) (pe_fld (pv 0) rfl) (pe_call GW hr rfl mW kW bW .nil pass0 (pa_cons (pv 1) (pa_cons (pe_fld (pv 0) rfl) pa_nil))) (fun _ _ => rfl)) rfl)
    (pss_cons (ps_if (pt_cmpR op_eq (pe_op op_mod (pe_fld (pv 0) rfl) pe_int) pe_int (nomark _)) (pss_one (ps_fldaug (pv 0) pe_int in_add)) pss_nil)
    (pss_cons (ps_fld (pv 0) (pe_lst pa_nil) rfl)
    (pss_one (ps_for PassesOwn.never rfl (pi_list (pv 1)) (pg_name (i := 2) scEnd.nd rfl (Or.inl rfl)) (pss_one (ps_expr (pe_dpop1 (pe_fld (pv 0) rfl) (pv 2) ⟨rfl, rfl, rfl, rfl⟩)))))))), ?_⟩
  -- over = self.trick
  refine ⟨_, rfl, x, C, dx, _, _, rfl, h1, T.cl, T.nTrick, tf_trick, ?_⟩
  -- self.lead = self.seat_of[winning_card(over, self.trump)]
  have hlen4 : (g.trick ++ [c]).length = 4 := by rw [List.length_append, hl3]; rfl
  refine ⟨_, rfl, x, C, dx, _, _, rfl, h1, T.cl, T.nSeat, tf_seat, _, rfl, _, rfl, x, C, dx, _, _, rfl, h1, T.cl, T.nTrump, tf_trump, l, g.trick ++ [c], g.trump, rfl, SqL.of h2, (by intro z; rw [z] at hlen4; cases hlen4), by omega, fun y H1 hT s1 => ?_⟩
  have hseat := S.taker hc hl3 hT
  refine ⟨d, vN (g.play c).1.first, rfl, .inl ⟨_, Sum.inl (y : Int), .inl (s1 _ _ h3), rfl, (valV_seats S.nd hseat).symm⟩, _, rfl, x, C, dx, _, rfl, s1 _ _ h1, T.cl, T.nLead, (by show 5 < 1000; decide), ?_⟩
  rw [tf_setLead]
  have nxl := tb0.xl
  have nxd := tb0.xd
  have nld := tb0.ld_
  -- if self.lead % 2 == 0: self.won += 1
  have tail : ∀ H2 : Hp, H2 x = some (.ins C dx (tf g.trump (g.play c).1.first l ((wn + (g.play c).2 : Nat) : Int) d)) → (∀ b o, H1 b = some o → b ≠ x → H2 b = some o) →
      tSeq (sFld K (tVar 0) (tLst tNil) "trick") (tFor (iList K (tVar 1)) (gName 2) (tDrop (tDPop1 (tFld K (tVar 0) "seat_of") (tVar 2)))) { nx := fun _ H' => Q .non H', rt := Q } [some (.ref x), some (.ref l), none] H2 := fun H2 hx2 kp2 => by
    -- self.trick = []
    refine ⟨(by show 0 ≤ sizeLine; decide), fun l' hl' => ?_⟩
    have nxl' : x ≠ l' := ne_of_none hx2 hl'
    refine ⟨_, rfl, x, C, dx, _, rfl, (by rw [upd_ne nxl']; exact hx2), T.cl, T.nTrick, (by show 5 < 1000; decide), ?_⟩
    rw [tf_setTrick]
    have hl0 : H l' = none := by
      cases z : H l' with
      | none => rfl
      | some o =>
        have z1 := s1 _ _ z
        by_cases e : l' = x
        · exact absurd e.symm nxl'
        · rw [kp2 _ _ z1 e] at hl'; cases hl'
    generalize hH3 : upd (upd H2 l' (.lst [])) x (.ins C dx (tf g.trump (g.play c).1.first l' ((wn + (g.play c).2 : Nat) : Int) d)) = H3
    have hx3 : H3 x = some (.ins C dx (tf g.trump (g.play c).1.first l' ((wn + (g.play c).2 : Nat) : Int) d)) := by rw [← hH3, upd_same]
    have hl3' : H3 l' = some (.lst []) := by rw [← hH3, upd_ne (Ne.symm nxl'), upd_same]
    have kp3 : ∀ b o, H b = some o → b ≠ x → H3 b = some o := fun b o e hb => by
      rw [← hH3, upd_ne hb, upd_ne (ne_of_none e hl0)]
      exact kp2 _ _ (s1 _ _ e) hb
    have nl'd : l' ≠ d := fun z => by rw [z, h3] at hl0; cases hl0
    have nll' : l ≠ l' := fun z => by rw [← z, h2] at hl0; cases hl0
    -- for card in over: self.seat_of.pop(card)
    refine ⟨_, rfl, l, rfl, ⟨_, SqL.of (kp3 _ _ h2 (Ne.symm nxl))⟩, for_list (K := K) (a := l) (xs := (g.trick ++ [c]).map vN)
      (fun i σ H' => ∃ v : Option V, σ = [some (.ref x), some (.ref l), v] ∧ H' d = some (.dK ((seats.filter fun p => !((g.trick ++ [c]).take i).contains p.1).map kvN)) ∧ ∀ b o, H3 b = some o → b ≠ d → H' b = some o)
      ⟨none, rfl, ?_, fun b o e _ => e⟩ (fun i σ H' _ ⟨_, _, _, k4⟩ => SqL.of (k4 _ _ (kp3 _ _ h2 (Ne.symm nxl)) nld)) ?_ ?_⟩
    · rw [kp3 _ _ h3 (Ne.symm nxd)]
      have : (seats.filter fun p => !((g.trick ++ [c]).take 0).contains p.1) = seats := by
        rw [List.filter_eq_self]; intro p _; rfl
      rw [this]
    · rintro i y σ H' hy ⟨v, rfl, hd4, k4⟩
      obtain ⟨e, he, rfl⟩ := map_at hy
      have hmem : (e, (g.first + i) % 4) ∈ seats := (S.four hc).2 i e he
      have hnot : e ∉ (g.trick ++ [c]).take i := fun z => by
        obtain ⟨j, hj, ej⟩ := List.getElem_of_mem z
        rw [List.getElem_take] at ej
        rw [List.length_take] at hj
        obtain ⟨hi, ei⟩ := List.getElem?_eq_some_iff.mp he
        have := nd_inj (S.four hc).1 (show j < _ by omega) hi (ej.trans ei.symm)
        omega
      have hin : (e, (g.first + i) % 4) ∈ seats.filter fun p => !((g.trick ++ [c]).take i).contains p.1 := by
        rw [List.mem_filter]
        refine ⟨hmem, ?_⟩
        show (!((g.trick ++ [c]).take i).contains e) = true
        cases z : ((g.trick ++ [c]).take i).contains e with
        | false => rfl
        | true => exact absurd (List.contains_iff_mem.mp z) hnot
      refine ⟨_, rfl, x, C, dx, _, _, rfl, k4 _ _ hx3 nxd, T.cl, T.nSeat, tf_seat, d, rfl, .inl ⟨_, .inl hd4⟩, _, rfl, _, Sum.inl (e : Int), _, hd4, rfl, valV_seats (S.nd.sublist ((List.filter_sublist).map _)) hin, ?_⟩
      refine ⟨_, rfl, ?_, fun b o eb hb => by rw [upd_ne hb]; exact k4 b o eb hb⟩
      rw [upd_same, dropK_seats, take_more he, filter_filter_ne]
    · rintro σ H' ⟨v, rfl, hd4, k4⟩
      rw [List.length_map, List.take_length] at hd4
      have pe := play_end (g := g) (c := c) hl3
      refine q H' l' (seats.filter fun p => !(g.trick ++ [c]).contains p.1) ⟨⟨dx, ?_⟩, ?_, hd4⟩ ?_ (fun p hp => (List.mem_filter.mp hp).1) (fun b o e h1' h2' h3' => k4 _ _ (kp3 _ _ e h1') h3') (.inr hl0)
      · rw [play_trump]
        exact k4 _ _ hx3 nxd
      · rw [pe.1]
        exact k4 _ _ hl3' nl'd
      · rw [if_pos (by omega)]
        refine S.endTrick hc hl3 (fun p => ?_) (S.nd.sublist ((List.filter_sublist).map _))
        rw [List.mem_filter]
        have : (!(g.trick ++ [c]).contains p.1) = true ↔ p.1 ∉ g.trick ++ [c] := by
          rw [Bool.not_eq_true', ← Bool.not_eq_true, List.contains_iff_mem]
        rw [this]
  have pe := play_end (g := g) (c := c) hl3
  refine ⟨_, rfl, x, C, dx, _, _, rfl, upd_same, T.cl, T.nLead, tf_lead, _, _, rfl, rfl, (by show (0 : Int) < 2; decide), rfl, _, rfl, ?_⟩
  refine ite2 (fun e => ?_) (fun e => ?_)
  · have e0 : (g.play c).1.first % 2 = 0 := by
      have e := of_decide_eq_true e
      have e : (((g.play c).1.first : Nat) : Int) % 2 = 0 := by injection e
      omega
    refine ⟨_, rfl, x, C, dx, _, _, rfl, upd_same, T.cl, T.nWon, tf_won, _, _, rfl, rfl, dx, _, upd_same, (by show 5 < 1000; decide), ?_⟩
    rw [tf_setWon, upd_upd]
    refine tail _ ?_ (fun b o eb hb => by rw [upd_ne hb]; exact eb)
    rw [upd_same, pe.2, if_pos e0]; rfl
  · have e0 : ¬ (g.play c).1.first % 2 = 0 := fun z => e (decide_eq_true (congrArg V.int (by omega)))
    refine tail _ ?_ (fun b o eb hb => by rw [upd_ne hb]; exact eb)
    rw [upd_same, pe.2, if_neg e0]; rfl

end
end PT

end
section
set_option Elab.async false
set_option linter.all false
set_option maxRecDepth 100000
set_option maxHeartbeats 2000000
namespace PT
open PySem PySem.Spec PyProof.Rows L2 LT
open PySem.W (Codec)
open Sy12 (Game suit)
open Sy12Neutral (nats)
section
variable {P : Program} {w : World} {K : PySem.W.Frag} {mg : Str → Option Value} {base : Heap} {C : Addr}
theorem scPlay : FnScope ["self", "card"] ["self", "card"] (defScope sPlay) := ⟨rfl, rfl, rfl, by decide +kernel, rfl, by decide +kernel, by decide +kernel⟩
theorem ok_play {f fE : Addr} {fd fdE : FuncData} (F : Fun K "play" "Table.play" sPlay f fd) (T : Txt K mg C) (GE : ∀ {P : Program} {w : World} {base : Heap}, FnOk P w K mg base CX0 3 fE fdE ["self"] (spEnd C))
    (bE : Binds K fdE ["self"] []) (mE : Meth K C "end_trick" fE) : FnOk P w K mg base CX0 4 f fd ["self", "card"] (spPlay C) := by
  refine F.ok scPlay (fun vs H Q E h => ?_) (fun cdv A outer s H vs Q E hr h => ?_)
  · obtain ⟨x, l, d, wn, m, c, g, seats, rfl, _⟩ := h
    rfl
  obtain ⟨x, l, d, wn, m, c, g, seats, rfl, tb, S, hc, q⟩ := h
  have tb0 := tb
  obtain ⟨⟨dx, h1⟩, h2, h3⟩ := tb
  obtain ⟨ts, hS⟩ := T.gSEATS
  refine ⟨_, pss_cons (ps_expr (pe_bm PySem.F.plainAttrs_list PySem.F.slot_list_append PySem.F.type_list_append mt_append (pe_fld (pv 0) rfl) (pa_cons (pv 1) pa_nil)))
    (pss_one (ps_if (pt_cmpR op_eq (pe_callB call_len_seq (by rfl) T.bLen PySem.boot_len (pa_cons (pe_fld (pv 0) rfl) pa_nil)) (pe_glob (v := .int 4) rfl hS ⟨_, rfl⟩) (nomark _))
      (pss_one (ps_expr (pe_meth0 (pv 0) T.cl mE GE hr bE .nil pass0))) pss_nil)), ?_⟩
  have l4 := S.len4
  refine ⟨_, rfl, x, C, dx, _, _, rfl, h1, T.cl, T.nTrick, tf_trick, .inl ⟨rfl, _, SqL.of h2⟩, _, rfl, l, _, _, rfl, rfl, h2, (by rw [List.length_map]; exact small1000 (by omega)), ?_⟩
  have nxl := tb0.xl
  have nxd := tb0.xd
  have nld := tb0.ld_
  have e1 : g.trick.map vN ++ [vN c] = (g.trick ++ [c]).map vN := by rw [List.map_append]; rfl
  have tb1 : TabAt C (upd H l (.lst (g.trick.map vN ++ [vN c]))) x l d g.trump g.first wn (g.trick ++ [c]) seats :=
    ⟨⟨dx, by rw [upd_ne nxl]; exact h1⟩, by rw [upd_same, e1], by rw [upd_ne (Ne.symm nld)]; exact h3⟩
  have kp1 : ∀ b o, H b = some o → b ≠ l → (upd H l (.lst (g.trick.map vN ++ [vN c]))) b = some o := fun b o e hb => by rw [upd_ne hb]; exact e
  generalize upd H l (.lst (g.trick.map vN ++ [vN c])) = H1 at tb1 kp1
  have tb2 := tb1
  obtain ⟨⟨dx1, g1⟩, g2, g3⟩ := tb1
  refine ⟨_, rfl, x, C, dx1, _, _, rfl, g1, T.cl, T.nTrick, tf_trick, l, _, rfl, .inl (SqL.of g2), rfl, _, rfl, ?_⟩
  refine ite2 (fun e => ?_) (fun e => ?_)
  · have e := of_decide_eq_true e
    have e : ((((g.trick ++ [c]).map vN).length : Nat) : Int) = 4 := by injection e
    rw [List.length_map, List.length_append, List.length_singleton] at e
    refine ⟨_, rfl, x, dx1, _, rfl, g1, tf_no (by decide +kernel) (by decide +kernel) (by decide +kernel) (by decide +kernel) (by decide +kernel), x, l, d, wn, m, c, g, seats, rfl, tb2, S, hc, by omega, fun H' l' seats' t' S' hs kp hl' => ?_⟩
    refine q H' l' seats' t' S' hs (fun b o e h1' h2' h3' => kp b o (kp1 b o e h2') h1' h2' h3') ?_
    rcases hl' with z | z
    · exact .inl z
    · by_cases y : l' = l
      · exact .inl y
      · refine .inr ?_
        cases zz : H l' with
        | none => rfl
        | some o => rw [kp1 _ _ zz y] at z; cases z
  · have e : ¬ g.trick.length + 1 = 4 := fun z => e (decide_eq_true (by
      show V.int _ = V.int _
      rw [List.length_map, List.length_append, List.length_singleton, z]; rfl))
    have pm := play_mid (g := g) (c := c) e
    refine q H1 l seats ⟨⟨dx1, ?_⟩, ?_, g3⟩ ?_ (fun p hp => hp) (fun b o e h1' h2' h3' => kp1 b o e h2') (.inl rfl)
    · rw [play_trump, pm.2.1, pm.2.2]; exact g1
    · rw [pm.1]; exact g2
    · rw [if_neg e]; exact S.play hc (by omega)
end
end PT

end
section
set_option Elab.async false
set_option linter.all false
set_option maxRecDepth 100000
set_option maxHeartbeats 2000000
namespace PT
open PySem PySem.Spec PyProof.Rows L2 LT
open PySem.W (Codec)
open Sy12 (Game suit)
open Sy12Neutral (nats)
section
variable {P : Program} {w : World} {K : PySem.W.Frag} {mg : Str → Option Value} {base : Heap} {C : Addr}
theorem scAll : FnScope ["table", "played", "card"] ["table", "played"] (defScope sAll) := ⟨rfl, rfl, rfl, by decide +kernel, rfl, by decide +kernel, by decide +kernel⟩
theorem ok_all {f fA fP : Addr} {fd fdA fdP : FuncData} (F : Fun K "play_all" "play_all" sAll f fd) (T : Txt K mg C) (GA : ∀ {P : Program} {w : World} {base : Heap}, FnOk P w K mg base CX0 2 fA fdA ["self"] (spAllowed C)) (bA : Binds K fdA ["self"] []) (mA : Meth K C "cards_allowed" fA)
    (GP : ∀ {P : Program} {w : World} {base : Heap}, FnOk P w K mg base CX0 4 fP fdP ["self", "card"] (spPlay C)) (bP : Binds K fdP ["self", "card"] []) (mP : Meth K C "play" fP) : FnOk P w K mg base CX0 5 f fd ["table", "played"] (spAll K C) := by
  refine F.ok scAll (fun vs H Q E h => ?_) (fun cdv A outer s H vs Q E hr h => ?_)
  · obtain ⟨x, l, d, a, wn, m, g, seats, ps, rfl, _⟩ := h
    rfl
  obtain ⟨x, l, d, a, wn, m, g, seats, ps, rfl, hA, tb, S, qT, qF⟩ := h
  refine ⟨_, pss_cons (ps_for PassesOwn.never rfl (pi_list (pv 1)) (pg_name (i := 2) scAll.nd rfl (Or.inl rfl)) (pss_cons (ps_if (pt_cmpR op_notIn_seq (pv 2) (pe_meth0 (pv 0) T.cl mA GA (hr.mono (by decide)) bA .nil pass0) (by with_unfolding_all rfl)) (pss_one (ps_ret pe_bl)) pss_nil)
    (pss_one (ps_expr (pe_meth (pv 0) T.cl mP GP hr bP .nil pass0 (pa_cons (pv 2) pa_nil)))))) (pss_one (ps_ret pe_bl)), ?_⟩
  refine ⟨_, rfl, a, rfl, ⟨_, hA.sq⟩, for_list (K := K) (a := a) (xs := ps.map vN)
    (fun i σ H' => ∃ (v : Option V) (l' : Addr) (g' : Game) (n m' : Nat) (seats' : List (Nat × Nat)), σ = [some (.ref x), some (.ref a), v] ∧ Led g (ps.take i) g' n ∧ TabAt C H' x l' d g'.trump g'.first (wn + n) g'.trick seats' ∧ SeatsOk m' g' seats' ∧ (∀ p, p ∈ seats' → p ∈ seats) ∧ g'.trump = g.trump ∧ Kept H H' x l d ∧ (l' = l ∨ H l' = none) ∧ FzL K H' a (ps.map vN))
    ⟨none, l, g, 0, m, seats, rfl, led_nil g, tb, S, fun p hp => hp, rfl, Kept.of_same (Same.refl H), .inl rfl, hA⟩ (fun i σ H' _ ⟨_, _, _, _, _, _, _, _, _, _, _, _, _, _, z⟩ => z.sq) ?_ ?_⟩
  · rintro i y σ H' hy ⟨v, l', g', n, m', seats', rfl, hL, tb', S', hs', ht', kp', hl', hA'⟩
    obtain ⟨c, hc, rfl⟩ := map_at hy
    have tb1 := tb'
    obtain ⟨⟨dx, h1⟩, h2, h3⟩ := tb'
    refine ⟨_, rfl, _, rfl, x, dx, _, rfl, h1, tf_no (by decide +kernel) (by decide +kernel) (by decide +kernel) (by decide +kernel) (by decide +kernel), x, l', d, wn + n, m', g', seats', rfl, tb1, S', fun L p H1 hAl s1 hp => ?_⟩
    refine ⟨p, _, rfl, .inl (SqL.of hp), rfl, flat_nats L, _, rfl, ?_⟩
    rw [inV_nat]
    refine ite2 (fun e => ?_) (fun e => ?_)
    · have hno : c ∉ g'.may := fun z => by
        rw [if_pos rfl, decide_eq_true ((hAl.2 c).mpr z)] at e; cases e
      refine qF H1 ?_
      have := hL.bad (r := ps.drop (i + 1)) hno
      rw [show ps.take i ++ c :: ps.drop (i + 1) = ps by
        rw [show c :: ps.drop (i + 1) = ps.drop i from ?_, List.take_append_drop]
        obtain ⟨hi, ei⟩ := List.getElem?_eq_some_iff.mp hc
        rw [List.drop_eq_getElem_cons hi, ei]] at this
      exact this
    · have hyes : c ∈ g'.may := by
        refine (hAl.2 c).mp ?_
        rw [if_pos rfl] at e
        refine Classical.byContradiction fun z => e ?_
        rw [decide_eq_false z]; rfl
      refine ⟨_, rfl, x, dx, _, rfl, s1 _ _ h1, tf_no (by decide +kernel) (by decide +kernel) (by decide +kernel) (by decide +kernel) (by decide +kernel), _, rfl, x, l', d, wn + n, m', c, g', seats', rfl, tb1.same s1, S', hyes, fun H2 l2 seats2 t2 S2 hs2 kp2 hl2 => ?_⟩
      have k1 : Kept H' H2 x l' d := fun b o e h1' h2' h3' => kp2 b o (s1 b o e) h1' h2' h3'
      refine ⟨_, l2, (g'.play c).1, n + (g'.play c).2, _, seats2, rfl, ?_, ?_, S2, fun p hp => hs' p (hs2 p hp), by rw [play_trump]; exact ht', kp'.trans k1 hl', ?_, hA'.kept tb1 k1⟩
      · rw [take_more hc]; exact hL.step hyes
      · rw [← Nat.add_assoc]; exact t2
      · rcases hl2 with z | z
        · rw [z]; exact hl'
        · by_cases e : l2 = l
          · exact .inl e
          · refine .inr ?_
            have nx : x ≠ l2 := ne_of_none ((s1 _ _ h1)) z
            have nd : d ≠ l2 := ne_of_none ((s1 _ _ h3)) z
            cases zz : H l2 with
            | none => rfl
            | some o => rw [s1 _ _ (kp' _ _ zz (Ne.symm nx) e (Ne.symm nd))] at z; cases z
  · rintro σ H' ⟨v, l', g', n, m', seats', rfl, hL, tb', S', hs', ht', kp', hl', hA'⟩
    rw [List.length_map, List.take_length] at hL
    exact qT H' l' g' n m' seats' hL.done tb' S' hs' ht' kp' hl'
end
end PT

end
section
set_option Elab.async false
set_option linter.all false
set_option maxRecDepth 100000
set_option maxHeartbeats 2000000
namespace PT
open PySem PySem.Spec PyProof.Rows L2 LT
open PySem.W (Codec)
open Sy12 (Game suit)
open Sy12Neutral (nats)
section
variable {P : Program} {w : World} {K : PySem.W.Frag} {mg : Str → Option Value} {base : Heap} {C : Addr}
theorem scTaken : FnScope ["k", "trump", "lead", "cards", "played", "table"] ["k", "trump", "lead", "cards", "played"] (defScope sTaken) := ⟨rfl, rfl, rfl, by decide +kernel, rfl, by decide +kernel, by decide +kernel⟩
theorem ok_taken {f fI fT fD fA : Addr} {fd fdI fdT fdD fdA : FuncData} (F : Fun K "taken" "taken" sTaken f fd) (T : Txt K mg C) (TD : TxtD K mg) (TE : TxtE mg) (M : Mk K C fI)
    (GI : ∀ {P : Program} {w : World} {base : Heap}, FnOk P w K mg base CX0 1 fI fdI ["self", "k", "trump", "lead", "cards"] (spInit K C)) (bI : Binds K fdI ["self", "k", "trump", "lead", "cards"] [])
    (GT : ∀ {P : Program} {w : World} {base : Heap}, FnOk P w K mg base CX0 1 fT fdT ["self"] (spTurn C)) (bT : Binds K fdT ["self"] []) (mT : Meth K C "turn" fT)
    (GD : ∀ {P : Program} {w : World} {base : Heap}, FnOk P w K mg base CX0 1 fD fdD ["k", "trump", "lead", "cards"] (spDeal K)) (bD : Binds K fdD ["k", "trump", "lead", "cards"] []) (kD : PySem.W.keepIn K (.ref fD) = true) (mD : mg "is_deal" = some (.ref fD))
    (GA : ∀ {P : Program} {w : World} {base : Heap}, FnOk P w K mg base CX0 5 fA fdA ["table", "played"] (spAll K C)) (bA : Binds K fdA ["table", "played"] []) (kA : PySem.W.keepIn K (.ref fA) = true) (mA : mg "play_all" = some (.ref fA)) :
    FnOk P w K mg base CX0 6 f fd ["k", "trump", "lead", "cards", "played"] (spTaken K) := by
  refine F.ok scTaken (fun vs H Q E h => ?_) (fun cdv A outer s H vs Q E hr h => ?_)
  · obtain ⟨a, b, k, t, f, cs, ps, rfl, _⟩ := h
    rfl
  obtain ⟨a, b, k, t, f, cs, ps, rfl, hA, hB, hnn, hlen, q⟩ := h
  obtain ⟨t1, gS⟩ := TD.gSEATS
  obtain ⟨t2, gD⟩ := TE.gDEAL
  obtain ⟨t3, gP⟩ := TE.gPLAY
  refine ⟨_, pss_cons (ps_if (PW.pt (pw_or (pt_not (pt_val (pe_call GD (hr.mono (by decide)) rfl mD kD bD .nil pass0 (pa_cons (pv 0) (pa_cons (pv 1) (pa_cons (pv 2) (pa_cons (pv 3) pa_nil)))))))
      (pw_or1 (pt_cmpR op_gt (pe_callB call_len_seq (by rfl) T.bLen PySem.boot_len (pa_cons (pv 4) pa_nil)) (pe_op op_mul (pe_glob (v := .int 4) rfl gS ⟨_, rfl⟩) (pv 0)) (nomark _))))) (pss_one (ps_ret (pe_lst (pa_cons (pe_glob (v := .int (-2)) rfl gD ⟨_, rfl⟩) pa_nil)))) pss_nil)
    (pss_cons (ps_set (i := 5) scTaken.nd rfl (Or.inl rfl) (pe_make M GI (hr.mono (by decide)) rfl T.mgC bI .nil pass0 (pa_cons (pv 0) (pa_cons (pv 1) (pa_cons (pv 2) (pa_cons (pv 3) pa_nil))))))
    (pss_cons (ps_if (pt_not (pt_val (pe_call GA hr rfl mA kA bA .nil pass0 (pa_cons (pv 5) (pa_cons (pv 4) pa_nil))))) (pss_one (ps_ret (pe_lst (pa_cons (pe_glob (v := .int (-1)) rfl gP ⟨_, rfl⟩) pa_nil)))) pss_nil)
    (pss_one (ps_ret (pe_lst (pa_cons (pe_fld (pv 5) rfl) (pa_cons (pe_meth0 (pv 5) T.cl mT GT (hr.mono (by decide)) bT .nil pass0) pa_nil))))))), ?_⟩
  -- the refusal
  have no : ¬ (DealOk k t f cs ∧ (ps.length : Int) ≤ 4 * k) → ∀ H1 : Hp, ([V.int (-2)] : List V).length ≤ sizeLine ∧ ∀ p, H1 p = none → Q (.ref p) (upd H1 p (.lst [V.int (-2)])) := fun z H1 =>
    ⟨(by show 1 ≤ sizeLine; decide), fun p hp => q _ p (by rw [upd_same, taken_no hA.nn z]; rfl)⟩
  refine ⟨_, rfl, _, rfl, _, rfl, _, rfl, a, k, t, f, cs, rfl, hA.fz.sq, hA.len24, fun bb H1 hb s1 => ⟨bb, rfl, ?_⟩⟩
  refine ite2 (fun c => iteT (no (fun z => by rw [hb.mpr z.1] at c; cases c) H1)) (fun c => ?_)
  have hd : DealOk k t f cs := hb.mp (by cases bb with | true => rfl | false => exact absurd rfl c)
  refine ⟨_, rfl, b, _, rfl, .inl (hB.same s1).sq, _, rfl, _, _, rfl, rfl, .inl ⟨by decide, by decide⟩, _, _, rfl, rfl, _, rfl, ?_⟩
  refine ite2 (fun c => no (fun z => ?_) H1) (fun c => ?_)
  · have c := of_decide_eq_true c
    rw [List.length_map] at c
    have := z.2
    omega
  have hp4 : (ps.length : Int) ≤ 4 * k := by
    have c : ¬ _ := fun z => c (decide_eq_true z)
    rw [List.length_map] at c
    omega
  obtain ⟨hk, ht, hf, hc52, hcn⟩ := hd
  have hd : DealOk k t f cs := ⟨hk, ht, hf, hc52, hcn⟩
  have S0 := deal_seats hd (hA.len4 hd)
  -- table = Table(k, trump, lead, cards)
  refine ⟨_, rfl, _, rfl, _, rfl, _, rfl, fun x dx nx nd nxd => ?_⟩
  have hm : cs.map V.int = (nats cs).map vN := nats_map hA.nn
  have hmp : ps.map V.int = (nats ps).map vN := nats_map hnn
  have s2 : Same H1 (upd (upd H1 dx (.own x)) x (.ins C dx [])) := fun c o e => by rw [upd_ne (ne_of_none e nx), upd_ne (ne_of_none e nd)]; exact e
  refine ⟨x, dx, a, k.toNat, t.toNat, f.toNat, nats cs, ?_, upd_same, ?_, by omega, by omega, (nats_nodup hA.nn).mpr hcn, by rw [nats_len]; exact hA.len24, fun H2 l d tb kp hl hd0 => ⟨rfl, ?_⟩⟩
  · rw [← vN_toNat (by omega : 0 ≤ k), ← vN_toNat ht.1, ← vN_toNat hf.1]; rfl
  · rw [← hm]; exact (hA.fz.same s1).same s2
  -- if not play_all(table, played)
  have hB2 : FzL K H2 b ((nats ps).map vN) := by
    rw [← hmp]
    have hB1 := hB.same s1
    rcases hB1 with ⟨o, h⟩ | h
    · exact .inl ⟨o, kp _ _ (s2 _ _ h) (ne_of_none h nx)⟩
    · exact .inr h
  refine ⟨_, rfl, _, rfl, x, l, d, b, 0, k.toNat, dealG (nats cs) k.toNat t.toNat f.toNat, dealS (nats cs) k.toNat, nats ps, rfl, hB2, tb, S0, fun H3 l' g' n m' seats' ha tb' S' hs' ht' kp' hl' => ⟨true, rfl, ?_⟩, fun H3 ha => ⟨false, rfl, ?_⟩⟩
  · refine iteF ?_
    obtain ⟨⟨dx', h1⟩, h2, h3⟩ := tb'
    refine ⟨_, rfl, x, C, dx', _, _, rfl, h1, T.cl, T.nWon, tf_won, _, rfl, x, dx', _, rfl, h1, tf_no (by decide +kernel) (by decide +kernel) (by decide +kernel) (by decide +kernel) (by decide +kernel), x, l', d, g'.trump, g'.first, 0 + n, g'.trick, seats', rfl, ⟨⟨dx', h1⟩, h2, h3⟩, ?_⟩
    refine ⟨(by show 2 ≤ sizeLine; decide), fun p hp => q _ p ?_⟩
    rw [upd_same, taken_ok hd hp4 ha, Nat.zero_add]
    rfl
  · refine iteT ⟨(by show 1 ≤ sizeLine; decide), fun p hp => q _ p ?_⟩
    rw [upd_same, taken_bad hd hp4 ha]
    rfl
theorem handed_taken {K : PySem.W.Frag} {H : Hp} {k t f : Int} {cs ps : List Int} {a b : Addr} {Q : VK} {E : XK} (hO : OnlyF H) (hask : PySy12.taken_asked k t f cs ps = true) (h1 : SqL K H a (cs.map V.int)) (h2 : SqL K H b (ps.map V.int))
    (q : ∀ (H' : Hp) (p : Addr), H' p = some (.lst ((PySy12.taken k t f cs ps).map V.int)) → Q (.ref p) H') : spTaken K [.int k, .int t, .int f, .ref a, .ref b] H Q E := by
  have h : (Sy12Neutral.whole32 k && (Sy12Neutral.whole32 t && (Sy12Neutral.whole32 f && (cs.all (fun (z : Int) => Sy12Neutral.natural z 8) && (decide ((cs.length : Int) = if 1 ≤ k ∧ k ≤ 6 then 4 * k else 0) && (ps.all (fun (z : Int) => Sy12Neutral.natural z 8) && (decide ((ps.length : Int) ≤ if 1 ≤ k ∧ k ≤ 6 then 25 else 0)))))))) = true := hask
  simp only [Bool.and_eq_true, decide_eq_true_iff, List.all_eq_true] at h
  obtain ⟨_, _, _, hc, hl, hp, hpl⟩ := h
  refine ⟨a, b, k, t, f, cs, ps, rfl, ⟨FzL.of hO h1, fun c hc' => natural_nn (hc c hc'), hl⟩, FzL.of hO h2, fun c hc' => natural_nn (hp c hc'), ?_, q⟩
  by_cases e : 1 ≤ k ∧ k ≤ 6
  · rw [if_pos e] at hpl; omega
  · rw [if_neg e] at hpl; omega
end
end PT

end
set_option Elab.async false
set_option linter.all false
set_option maxRecDepth 100000
set_option maxHeartbeats 2000000
namespace PT
open PySem PySem.Spec PyProof.Rows L2 LT
open PySem.W (Codec)
theorem all_mk {P : Program} {w : World} {K : PySem.W.Frag} {h : Heap} {mg : Str → Option Value} {fa C f1 f2 f3 f4 f5 f6 f7 f8 f9 f10 : Addr} (X : K.In h) (G : h.Ns mainGlobals mg) (hfa : mg "taken" = some (.ref fa))
    {od1 an1 od2 an2 od3 an3 od4 an4 od5 an5 od6 an6 od7 an7 od8 an8 od9 an9 od10 an10 : Option Addr} {sl1 sl2 sl3 sl4 sl5 sl6 sl7 sl8 sl9 sl10 : Array (Option Value)} {oc1 kV1 dc1 pm1 cd1 ct1 oc2 kV2 dc2 pm2 cd2 ct2 oc3 kV3 dc3 pm3 cd3 ct3 oc4 kV4 dc4 pm4 cd4 ct4 oc5 kV5 dc5 pm5 cd5 ct5 oc6 kV6 dc6 pm6 cd6 ct6 oc7 kV7 dc7 pm7 cd7 ct7 oc8 kV8 dc8 pm8 cd8 ct8 oc9 kV9 dc9 pm9 cd9 ct9 oc10 kV10 dc10 pm10 cd10 ct10 : Value}
    {tk0 tk1 tk2 tk3 tk4 tk5 : Tok}
    (aC : PySem.W.nsIn K mainGlobals "Table" = some (some (.ref C)))
    (a1 : PySem.W.findIn K (.ref C) "__init__" = some (some (.ref f1)))
    (i1 : PySem.W.isFn K (.ref f1) = true)
    (l1 : K.lookup f1 = some ⟨oc1, od1, .func (PySem.W.fnOf "__init__" "Table.__init__" (defArgs sInit) (defBody sInit) (defScope sInit) .none kV1 dc1 pm1 an1 cd1 ct1), sl1⟩)
    (c1 : PySem.W.codeIn K cd1 "Table.__init__" = true)
    (k1 : PySem.W.keepIn K (.ref f1) = true)
    (a2 : PySem.W.findIn K (.ref C) "turn" = some (some (.ref f2)))
    (i2 : PySem.W.isFn K (.ref f2) = true)
    (l2 : K.lookup f2 = some ⟨oc2, od2, .func (PySem.W.fnOf "turn" "Table.turn" (defArgs sTurn) (defBody sTurn) (defScope sTurn) .none kV2 dc2 pm2 an2 cd2 ct2), sl2⟩)
    (c2 : PySem.W.codeIn K cd2 "Table.turn" = true)
    (k2 : PySem.W.keepIn K (.ref f2) = true)
    (a3 : PySem.W.findIn K (.ref C) "cards_allowed" = some (some (.ref f3)))
    (i3 : PySem.W.isFn K (.ref f3) = true)
    (l3 : K.lookup f3 = some ⟨oc3, od3, .func (PySem.W.fnOf "cards_allowed" "Table.cards_allowed" (defArgs sAllowed) (defBody sAllowed) (defScope sAllowed) .none kV3 dc3 pm3 an3 cd3 ct3), sl3⟩)
    (c3 : PySem.W.codeIn K cd3 "Table.cards_allowed" = true)
    (k3 : PySem.W.keepIn K (.ref f3) = true)
    (a4 : PySem.W.findIn K (.ref C) "play" = some (some (.ref f4)))
    (i4 : PySem.W.isFn K (.ref f4) = true)
    (l4 : K.lookup f4 = some ⟨oc4, od4, .func (PySem.W.fnOf "play" "Table.play" (defArgs sPlay) (defBody sPlay) (defScope sPlay) .none kV4 dc4 pm4 an4 cd4 ct4), sl4⟩)
    (c4 : PySem.W.codeIn K cd4 "Table.play" = true)
    (k4 : PySem.W.keepIn K (.ref f4) = true)
    (a5 : PySem.W.findIn K (.ref C) "end_trick" = some (some (.ref f5)))
    (i5 : PySem.W.isFn K (.ref f5) = true)
    (l5 : K.lookup f5 = some ⟨oc5, od5, .func (PySem.W.fnOf "end_trick" "Table.end_trick" (defArgs sEnd) (defBody sEnd) (defScope sEnd) .none kV5 dc5 pm5 an5 cd5 ct5), sl5⟩)
    (c5 : PySem.W.codeIn K cd5 "Table.end_trick" = true)
    (k5 : PySem.W.keepIn K (.ref f5) = true)
    (a6 : PySem.W.nsIn K mainGlobals "taken" = some (some (.ref f6)))
    (l6 : K.lookup f6 = some ⟨oc6, od6, .func (PySem.W.fnOf "taken" "taken" (defArgs sTaken) (defBody sTaken) (defScope sTaken) .none kV6 dc6 pm6 an6 cd6 ct6), sl6⟩)
    (c6 : PySem.W.codeIn K cd6 "taken" = true)
    (k6 : PySem.W.keepIn K (.ref f6) = true)
    (a7 : PySem.W.nsIn K mainGlobals "is_deal" = some (some (.ref f7)))
    (l7 : K.lookup f7 = some ⟨oc7, od7, .func (PySem.W.fnOf "is_deal" "is_deal" (defArgs sDeal) (defBody sDeal) (defScope sDeal) .none kV7 dc7 pm7 an7 cd7 ct7), sl7⟩)
    (c7 : PySem.W.codeIn K cd7 "is_deal" = true)
    (k7 : PySem.W.keepIn K (.ref f7) = true)
    (a8 : PySem.W.nsIn K mainGlobals "play_all" = some (some (.ref f8)))
    (l8 : K.lookup f8 = some ⟨oc8, od8, .func (PySem.W.fnOf "play_all" "play_all" (defArgs sAll) (defBody sAll) (defScope sAll) .none kV8 dc8 pm8 an8 cd8 ct8), sl8⟩)
    (c8 : PySem.W.codeIn K cd8 "play_all" = true)
    (k8 : PySem.W.keepIn K (.ref f8) = true)
    (a9 : PySem.W.nsIn K mainGlobals "suit_of" = some (some (.ref f9)))
    (l9 : K.lookup f9 = some ⟨oc9, od9, .func (PySem.W.fnOf "suit_of" "suit_of" (defArgs sSuit) (defBody sSuit) (defScope sSuit) .none kV9 dc9 pm9 an9 cd9 ct9), sl9⟩)
    (c9 : PySem.W.codeIn K cd9 "suit_of" = true)
    (k9 : PySem.W.keepIn K (.ref f9) = true)
    (a10 : PySem.W.nsIn K mainGlobals "winning_card" = some (some (.ref f10)))
    (l10 : K.lookup f10 = some ⟨oc10, od10, .func (PySem.W.fnOf "winning_card" "winning_card" (defArgs sWin) (defBody sWin) (defScope sWin) .none kV10 dc10 pm10 an10 cd10 ct10), sl10⟩)
    (c10 : PySem.W.codeIn K cd10 "winning_card" = true)
    (k10 : PySem.W.keepIn K (.ref f10) = true)
    (pgC : PySem.W.plainGet K C Str.empty = true)
    (hdC : PySem.W.hasDictIn K C = true)
    (poC : PySem.W.plainOver K C = true)
    (saC : PySem.W.findIn K (.ref C) "__setattr__" = some (some (.builtin "object.__setattr__")))
    (mkC : PySem.W.makesIn K C = true)
    (kcC : PySem.W.keepIn K (.ref C) = true)
    (nC0 : PySem.W.findIn K (.ref C) "trump" = some none)
    (nC1 : PySem.W.findIn K (.ref C) "lead" = some none)
    (nC2 : PySem.W.findIn K (.ref C) "trick" = some none)
    (nC3 : PySem.W.findIn K (.ref C) "won" = some none)
    (nC4 : PySem.W.findIn K (.ref C) "seat_of" = some none)
    (gv0 : PySem.W.nsIn K mainGlobals "SEATS" = some (some (.int 4 tk0)))
    (gv1 : PySem.W.nsIn K mainGlobals "SUITS" = some (some (.int 4 tk1)))
    (gv2 : PySem.W.nsIn K mainGlobals "HEIGHTS" = some (some (.int 13 tk2)))
    (gv3 : PySem.W.nsIn K mainGlobals "MOST_TRICKS" = some (some (.int 6 tk3)))
    (gv4 : PySem.W.nsIn K mainGlobals "WRONG_DEAL" = some (some (.int (-2) tk4)))
    (gv5 : PySem.W.nsIn K mainGlobals "WRONG_PLAY" = some (some (.int (-1) tk5)))
    (z0 : PySem.W.nsIn K mainGlobals "len" = some none)
    (z1 : PySem.W.nsIn K mainGlobals "max" = some none)
    (z2 : PySem.W.nsIn K mainGlobals "sorted" = some none)
    (z3 : PySem.W.nsIn K mainGlobals "enumerate" = some none)
    (z4 : PySem.W.nsIn K mainGlobals "any" = some none)
    (z5 : PySem.W.nsIn K mainGlobals "set" = some none) :
    ∃ fd : FuncData, (∀ (s : Shared) (us : List Value), us.length = (["k", "trump", "lead", "cards", "played"] : List Str).length → BindsTo s fd ⟨us, []⟩ ((["k", "trump", "lead", "cards", "played"] : List Str).zip us)) ∧ ∀ base : Heap, K.In base → base.Ns mainGlobals mg → FnOk P w K mg base CX0 6 fa fd ["k", "trump", "lead", "cards", "played"] (spTaken K) := by
  have e := hfa.symm.trans (PySem.W.mg_of X G a6)
  cases e
  have F1 := fun_mk (st := sInit) l1 c1 k1
  have F2 := fun_mk (st := sTurn) l2 c2 k2
  have F3 := fun_mk (st := sAllowed) l3 c3 k3
  have F4 := fun_mk (st := sPlay) l4 c4 k4
  have F5 := fun_mk (st := sEnd) l5 c5 k5
  have F6 := fun_mk (st := sTaken) l6 c6 k6
  have F7 := fun_mk (st := sDeal) l7 c7 k7
  have F8 := fun_mk (st := sAll) l8 c8 k8
  have F9 := fun_mk (st := sSuit) l9 c9 k9
  have F10 := fun_mk (st := sWin) l10 c10 k10
  have b1 := F1.binds (ps := ["self", "k", "trump", "lead", "cards"]) fun _ _ _ _ _ _ us hl => match us, hl with | [_, _, _, _, _], _ => rfl
  have b2 := F2.binds (ps := ["self"]) fun _ _ _ _ _ _ us hl => match us, hl with | [_], _ => rfl
  have b3 := F3.binds (ps := ["self"]) fun _ _ _ _ _ _ us hl => match us, hl with | [_], _ => rfl
  have b4 := F4.binds (ps := ["self", "card"]) fun _ _ _ _ _ _ us hl => match us, hl with | [_, _], _ => rfl
  have b5 := F5.binds (ps := ["self"]) fun _ _ _ _ _ _ us hl => match us, hl with | [_], _ => rfl
  have b7 := F7.binds (ps := ["k", "trump", "lead", "cards"]) fun _ _ _ _ _ _ us hl => match us, hl with | [_, _, _, _], _ => rfl
  have b8 := F8.binds (ps := ["table", "played"]) fun _ _ _ _ _ _ us hl => match us, hl with | [_, _], _ => rfl
  have b9 := F9.binds (ps := ["card"]) fun _ _ _ _ _ _ us hl => match us, hl with | [_], _ => rfl
  have b10 := F10.binds (ps := ["trick", "trump"]) fun _ _ _ _ _ _ us hl => match us, hl with | [_, _], _ => rfl
  have T : Txt K mg C := ⟨⟨pgC, hdC, poC, saC⟩, nC0, nC1, nC2, nC3, nC4, PySem.W.mg_of X G aC, ⟨_, PySem.W.mg_of X G gv0⟩, ⟨_, PySem.W.mg_of X G gv2⟩, PySem.W.mg_none_of X G z0, PySem.W.mg_none_of X G z1, PySem.W.mg_none_of X G z2, PySem.W.mg_none_of X G z3⟩
  have TD : TxtD K mg := ⟨⟨_, PySem.W.mg_of X G gv0⟩, ⟨_, PySem.W.mg_of X G gv1⟩, ⟨_, PySem.W.mg_of X G gv2⟩, ⟨_, PySem.W.mg_of X G gv3⟩, PySem.W.mg_none_of X G z0, PySem.W.mg_none_of X G z4, PySem.W.mg_none_of X G z5⟩
  have TE : TxtE mg := ⟨⟨_, PySem.W.mg_of X G gv4⟩, ⟨_, PySem.W.mg_of X G gv5⟩⟩
  have Gmain : ∀ {base : Heap}, FnOk P w K mg base CX0 6 fa _ _ (spTaken K) := fun {base} => ok_taken F6 T TD TE ⟨mkC, a1, i1, kcC⟩ (ok_init F1 T) b1 (ok_turn F2 T) b2 ⟨a2, i2, k2⟩ (ok_deal F7 TD) b7 k7 (PySem.W.mg_of X G a7) (ok_all F8 T (ok_allowed F3 T F9 b9 (PySem.W.mg_of X G a9) F2 b2 ⟨a2, i2, k2⟩) b3 ⟨a3, i3, k3⟩ (ok_play F4 T (ok_end F5 T (ok_win F10 T F9 b9 (PySem.W.mg_of X G a9)) k10 b10 (PySem.W.mg_of X G a10)) b5 ⟨a5, i5, k5⟩) b4 ⟨a4, i4, k4⟩) b8 k8 (PySem.W.mg_of X G a8)
  exact ⟨PySem.W.fnOf "taken" "taken" (defArgs sTaken) (defBody sTaken) (defScope sTaken) .none kV6 dc6 pm6 an6 cd6 ct6, fun s us hu => match us, hu with | [_, _, _, _, _], _ => .of_eq rfl, fun base _ _ => Gmain⟩
end PT
open PySem PySem.W PyProof.Rows
set_option maxRecDepth 100000 in
set_option maxHeartbeats 0 in
theorem PySem.Challenge.cw_lasttricks_s04_taken_holds : PySem.Challenge.rw_lasttricks_s04_taken.Holds := by
  w_on; k_headS; (case hw => exact ⟨[.int 0, .int 0, .int 0, .list [], .list []], by decide +kernel, by decide +kernel⟩)
  k_fillS
  refine L2.walk_specK (r := PySem.Challenge.rw_lasttricks_s04_taken) (k := 6) (CX := L2.CX0) (ps := ["k", "trump", "lead", "cards", "played"]) (sp := PT.spTaken) (by decide +kernel) rfl rfl ⟨rfl, by decide, by decide⟩ (fun w h Y => PySem.W.kIn_of Y) ?F ?S (fun _ _ _ _ z => z)
  case F =>
    intro w mg fa h Y KX G hmg
    refine' PT.all_mk KX G hmg ?aC ?a1 ?i1 ?l1 ?c1 ?k1 ?a2 ?i2 ?l2 ?c2 ?k2 ?a3 ?i3 ?l3 ?c3 ?k3 ?a4 ?i4 ?l4 ?c4 ?k4 ?a5 ?i5 ?l5 ?c5 ?k5 ?a6 ?l6 ?c6 ?k6 ?a7 ?l7 ?c7 ?k7 ?a8 ?l8 ?c8 ?k8 ?a9 ?l9 ?c9 ?k9 ?a10 ?l10 ?c10 ?k10 ?pgC ?hdC ?poC ?saC ?mkC ?kcC ?nC0 ?nC1 ?nC2 ?nC3 ?nC4 ?gv0 ?gv1 ?gv2 ?gv3 ?gv4 ?gv5 ?z0 ?z1 ?z2 ?z3 ?z4 ?z5
    (case aC => k_is)
    (case a1 => k_is)
    (case i1 => k_is)
    (case l1 => k_is)
    (case c1 => k_is)
    (case k1 => k_is)
    (case a2 => k_is)
    (case i2 => k_is)
    (case l2 => k_is)
    (case c2 => k_is)
    (case k2 => k_is)
    (case a3 => k_is)
    (case i3 => k_is)
    (case l3 => k_is)
    (case c3 => k_is)
    (case k3 => k_is)
    (case a4 => k_is)
    (case i4 => k_is)
    (case l4 => k_is)
    (case c4 => k_is)
    (case k4 => k_is)
    (case a5 => k_is)
    (case i5 => k_is)
    (case l5 => k_is)
    (case c5 => k_is)
    (case k5 => k_is)
    (case a6 => k_is)
    (case l6 => k_is)
    (case c6 => k_is)
    (case k6 => k_is)
    (case a7 => k_is)
    (case l7 => k_is)
    (case c7 => k_is)
    (case k7 => k_is)
    (case a8 => k_is)
    (case l8 => k_is)
    (case c8 => k_is)
    (case k8 => k_is)
    (case a9 => k_is)
    (case l9 => k_is)
    (case c9 => k_is)
    (case k9 => k_is)
    (case a10 => k_is)
    (case l10 => k_is)
    (case c10 => k_is)
    (case k10 => k_is)
    (case pgC => k_is)
    (case hdC => k_is)
    (case poC => k_is)
    (case saC => k_is)
    (case mkC => k_is)
    (case kcC => k_is)
    (case nC0 => k_is)
    (case nC1 => k_is)
    (case nC2 => k_is)
    (case nC3 => k_is)
    (case nC4 => k_is)
    (case gv0 => k_is)
    (case gv1 => k_is)
    (case gv2 => k_is)
    (case gv3 => k_is)
    (case gv4 => k_is)
    (case gv5 => k_is)
    (case z0 => k_is)
    (case z1 => k_is)
    (case z2 => k_is)
    (case z3 => k_is)
    (case z4 => k_is)
    (case z5 => k_is)
  case S =>
    intro K H xs a hO hwi hask hx
    obtain ⟨k, t, f, cs, ps, u⟩ := a
    cases hx with
    | cons h1 h2 =>
    cases h1
    cases h2 with
    | cons h1 h2 =>
    cases h1
    cases h2 with
    | cons h1 h2 =>
    cases h1
    cases h2 with
    | cons h1 h2 =>
    cases h2 with
    | cons h3 h4 =>
    cases h4
    cases h1 with
    | lst hs ha =>
    cases h3 with
    | lst hs2 ha2 =>
    have e := L2.ints_dw cs _ ha
    subst e
    have e2 := L2.ints_dw ps _ ha2
    subst e2
    exact PT.handed_taken hO hask hs hs2 fun H' p hp => .lst (L2.SqL.of hp) (L2.dw_ints _)
#print axioms PySem.Challenge.cw_lasttricks_s04_taken_holds
