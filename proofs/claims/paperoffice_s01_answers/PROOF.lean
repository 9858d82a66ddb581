import PyProof.Rows.All
import Wide.All
import OpenK.AllK
import Wide.FinOn
import PyProof.EqAt
import PyProof.EqKinds
import PyProof.TupleCall
import KE.BitLaws
import KE.OsGo
import Open.SpecLaws
import PySem.Challenge.RW_paperoffice_s01_answers
set_option Elab.async false
set_option linter.all false
set_option maxRecDepth 100000
/-! THE HAND LAYER, for ints, bools, texts, own classes, lists, tuples, dicts, comprehensions, walks over dicts, enumerate, zip, reversed, texts, calls, loops. Paste it whole ahead of your own text; what your proof does not reach may be deleted. -/
namespace L2
open PySem PySem.Spec PyProof.Rows

/-- a key: an int or a str -/
abbrev Key := Sum Int Str
def keyIs : Key → Value → Bool
  | .inl k, v => Value.isInt k v
  | .inr x, v => Value.isStrOf x v
def keyH (w : World) : Key → Int
  | .inl k => hashInt k
  | .inr x => hashStr w x
theorem keyIs_shape : ∀ {k : Key} {v : Value}, keyIs k v = true → (∃ i t, k = Sum.inl i ∧ v = Value.int i t) ∨ (∃ x t, k = Sum.inr x ∧ v = Value.str x t)
  | .inl i, v, h => by
    obtain ⟨t, e⟩ := Value.isInt_shape (k := i) (v := v) h
    exact .inl ⟨i, t, rfl, e⟩
  | .inr x, v, h => by
    obtain ⟨t, e⟩ := Value.isStrOf_shape (x := x) (v := v) h
    exact .inr ⟨x, t, rfl, e⟩
theorem keyIs_int (i : Int) (t : Tok) : keyIs (.inl i) (.int i t) = true := by simp [keyIs, Value.isInt]
theorem keyIs_str (x : Str) (t : Tok) : keyIs (.inr x) (.str x t) = true := by simp [keyIs, Value.isStrOf]
theorem key_ll (a b : Int) : decide ((Sum.inl a : Key) = Sum.inl b) = (a == b) := by
  by_cases e : a = b
  · subst e; simp
  · have h : ¬ (Sum.inl a : Key) = Sum.inl b := fun q => e (Sum.inl.inj q)
    rw [decide_eq_false h]
    exact (beq_eq_false_iff_ne.mpr e).symm
theorem key_rr (a b : Str) : decide ((Sum.inr a : Key) = Sum.inr b) = decide (a = b) := by
  by_cases e : a = b
  · subst e; simp
  · have h : ¬ (Sum.inr a : Key) = Sum.inr b := fun q => e (Sum.inr.inj q)
    rw [decide_eq_false h, decide_eq_false e]
theorem key_lr (a : Int) (b : Str) : decide ((Sum.inl a : Key) = Sum.inr b) = false := decide_eq_false (fun q => nomatch q)
theorem key_rl (a : Str) (b : Int) : decide ((Sum.inr a : Key) = Sum.inl b) = false := decide_eq_false (fun q => nomatch q)

def mixKind (prog : Program) (w : World) : PySem.KeyKind prog w Key where
  is := keyIs
  hash := keyH w
  inj := fun v a b ha hb => by
    rcases keyIs_shape ha with ⟨i, t, rfl, rfl⟩ | ⟨x, t, rfl, rfl⟩
    · rcases keyIs_shape hb with ⟨j, u, rfl, e⟩ | ⟨y, u, rfl, e⟩
      · injection e with e1 _; rw [e1]
      · exact nomatch e
    · rcases keyIs_shape hb with ⟨j, u, rfl, e⟩ | ⟨y, u, rfl, e⟩
      · exact nomatch e
      · injection e with e1 _; rw [e1]
  byValue := fun k v h => by
    rcases keyIs_shape h with ⟨i, t, rfl, rfl⟩ | ⟨x, t, rfl, rfl⟩ <;> rfl
  pyHash := fun hv h => by
    rcases keyIs_shape hv with ⟨i, t, rfl, rfl⟩ | ⟨x, t, rfl, rfl⟩
    · exact wpAny_pyHash_int h
    · exact wpAny_pyHash_str h
  eqBool := fun hu hv h => by
    rcases keyIs_shape hu with ⟨i, t, rfl, rfl⟩ | ⟨x, t, rfl, rfl⟩
    · rcases keyIs_shape hv with ⟨j, u, rfl, rfl⟩ | ⟨y, u, rfl, rfl⟩
      · rw [key_ll] at h; exact wpAny_eqBool_int h
      · rw [key_lr] at h; exact SeqAt.EqAt.int_str i t y u _ _ _ _ h
    · rcases keyIs_shape hv with ⟨j, u, rfl, rfl⟩ | ⟨y, u, rfl, rfl⟩
      · rw [key_rl] at h; exact SeqAt.EqAt.str_int x t j u _ _ _ _ h
      · rw [key_rr] at h; exact wpAny_eqBool_str h
  «strs» := fun k x t v h => by
    rcases keyIs_shape h with ⟨i, u, rfl, e⟩ | ⟨y, u, rfl, e⟩
    · exact nomatch e
    · injection e with e1 _
      subst e1
      cases v <;> rfl

theorem mixKind_int (prog : Program) (w : World) (i : Int) (t : Tok) : (mixKind prog w).is (.inl i) (.int i t) = true := keyIs_int i t
theorem mixKind_str (prog : Program) (w : World) (x : Str) (t : Tok) : (mixKind prog w).is (.inr x) (.str x t) = true := keyIs_str x t
end L2

namespace L2
open PySem PySem.Spec PyProof.Rows

/-- a value, without the heap -/
inductive V where
  | non | bl (b : Bool) | int (i : Int) | str (x : Str) | byt (b : Array UInt8) | flt (b : UInt64) | ref (a : Addr) | ty (n : String)
  deriving DecidableEq

def RelV : V → Value → Prop
  | .non, u => u = Value.none
  | .bl b, u => u = Value.bool b
  | .int i, u => ∃ t, u = Value.int i t
  | .str x, u => ∃ t, u = Value.str x t
  | .byt b, u => ∃ t, u = Value.bytes b t
  | .flt b, u => ∃ t, u = Value.float b t
  | .ref a, u => u = Value.ref a
  | .ty n, u => u = Value.type n

abbrev Vals : List V → List Value → Prop := Paired RelV
theorem Vals.length {xs : List V} {us : List Value} (r : Vals xs us) : xs.length = us.length := Paired.length r
theorem Vals.get : ∀ {xs : List V} {us : List Value} {i : Nat} {x : V}, Vals xs us → xs[i]? = some x → ∃ u, us[i]? = some u ∧ RelV x u
  | _, _, _, _, .nil, e => by simp at e
  | _, _, 0, _, .cons r _, e => by simp at e; subst e; exact ⟨_, rfl, r⟩
  | _, _, i + 1, x, .cons _ t, e => by
    obtain ⟨u, h1, h2⟩ := Vals.get (i := i) (x := x) t (by simpa using e)
    exact ⟨u, by simpa using h1, h2⟩
theorem Vals.append : ∀ {xs ys : List V} {us ws : List Value}, Vals xs us → Vals ys ws → Vals (xs ++ ys) (us ++ ws)
  | _, _, _, _, .nil, s => s
  | _, _, _, _, .cons r t, s => .cons r (Vals.append t s)
theorem Vals.take : ∀ {xs : List V} {us : List Value} (n : Nat), Vals xs us → Vals (xs.take n) (us.take n)
  | _, _, 0, _ => .nil
  | _, _, _ + 1, .nil => .nil
  | _, _, n + 1, .cons r t => .cons r (Vals.take n t)
theorem Vals.drop : ∀ {xs : List V} {us : List Value} (n : Nat), Vals xs us → Vals (xs.drop n) (us.drop n)
  | _, _, 0, r => r
  | _, _, _ + 1, .nil => .nil
  | _, _, n + 1, .cons _ t => Vals.drop n t

def RelO : Option V → Option Value → Prop
  | some v, some u => RelV v u
  | none, none => True
  | _, _ => False
def KV {κ : Type} : List (κ × V) → List (κ × Value) → Prop := Paired fun (p : κ × V) (q : κ × Value) => p.1 = q.1 ∧ RelV p.2 q.2

/-- a key of a dict (00_mix): an int or a text -/
def kV : Key → V
  | .inl i => .int i
  | .inr x => .str x

/-- what stands at a tracked address -/
inductive HO where
  /-- a list -/
  | lst (xs : List V)
  /-- a tuple (never changes) -/
  | tup (xs : List V)
  /-- a dict whose keys are ints and texts; one whose keys are tuples of ints and texts (the empty one is both) -/
  | dK (kvs : List (Key × V)) | dT (kvs : List (List Key × V))
  /-- a set of ints: its members, its size -/
  | set (S : Int → Bool) (n : Nat)
  /-- an instance of the class at C, its dict at dx, its attributes -/
  | ins (C dx : Addr) (fs : List (Str × V))
  /-- the dict of the instance at x -/
  | own (x : Addr)
  /-- the dict of an exception -/
  | xd (fs : List (Str × V))
  /-- a bound method, f of x -/
  | met (f x : Addr)
  /-- a range object lo, lo + 1, .. below hi -/
  | rng (lo hi : Int)
  /-- a thing that is known to the object (the script; a dict while a loop walks it): read, never written while it is so -/
  | frz (o : Obj) (u : HO)
  /-- a code object's table -/
  | tbl (ps : Array Value)
  /-- any other thing, by what is true of its one object (a def of one's own: SetO a S n := HO.ext fun h => ..) -/
  | ext (φ : Heap → Prop)

abbrev Hp := Addr → Option HO
def upd (H : Hp) (a : Addr) (o : HO) : Hp := fun b => if b = a then some o else H b
theorem upd_same {H : Hp} {a : Addr} {o : HO} : upd H a o a = some o := by unfold upd; rw [if_pos rfl]
theorem upd_ne {H : Hp} {a b : Addr} {o : HO} (h : b ≠ a) : upd H a o b = H b := by unfold upd; rw [if_neg h]
theorem upd_upd {H : Hp} {a : Addr} {o u : HO} : upd (upd H a o) a u = upd H a u := by
  funext b; unfold upd; split <;> rfl
/-- two objects of different content stand apart -/
theorem ne_of {H : Hp} {a b : Addr} {o u : HO} (h : H a = some o) (h' : H b = some u) (d : o ≠ u) : a ≠ b := by
  intro e; subst e; rw [h] at h'; exact d (Option.some.inj h')
theorem ne_of_none {H : Hp} {a b : Addr} {o : HO} (h : H a = some o) (h' : H b = none) : a ≠ b := by
  intro e; subst e; rw [h] at h'; cases h'

section
variable (P : Program) (w : World)
def ObjOk (H : Hp) (h : Heap) (a : Addr) : HO → Prop
  | .lst xs => xs.length ≤ sizeLine ∧ ∃ (its : List Value) (n : Nat), Vals xs its ∧ h.get? a = some { cls := .type "list", data := .seq its.toArray n }
  | .tup xs => xs.length ≤ sizeLine ∧ ∃ its : List Value, Vals xs its ∧ IsTup h a its.toArray
  | .dK kvs => kvs.length ≤ sizeLine ∧ (a == sysModules) = false ∧ ∃ vs, KV kvs vs ∧ h.DictOf (mixKind P w) a vs
  | .dT kvs => kvs.length ≤ sizeLine ∧ (a == sysModules) = false ∧ ∃ xs : List (List Key × Addr × Value),
      Paired (fun (p : List Key × V) (q : List Key × Addr × Value) => p.1 = q.1 ∧ H q.2.1 = some (.tup (p.1.map kV)) ∧ RelV p.2 q.2.2) kvs xs ∧
      ∃ o es ep, h.get? a = some o ∧ o.ExactDict ∧ o.data = .dict es ep ∧ es.toList = xs.map (entryOfKey (tupleKind (mixKind P w))) ∧ (xs.map (·.1)).Nodup
  | .set S n => h.SetOf (intKind P w) a S n
  | .ins C dx fs => H dx = some (.own a) ∧ fs.length ≤ 1000 ∧ dx ≠ a ∧ h.get? a = some (PySem.W.instObj C dx) ∧
      ∃ mA, h.Ns1 dx mA ∧ (∀ f, RelO (fs.lookup f) (mA f)) ∧ PySem.Within mA (fs.map (·.1))
  | .own _ => ∃ o, h.get? a = some o
  | .xd fs => ∃ mA, h.Ns1 a mA ∧ ∀ f, RelO (fs.lookup f) (mA f)
  | .rng lo hi => ∃ t u v, h.get? a = some { cls := .type "range", data := .fields #[.int lo t, .int hi u, .int 1 v] }
  | .frz o u => h.get? a = some o ∧ ObjOk H h a u
  | .tbl ps => h.get? a = some { cls := .none, data := .fields ps }
  | .met f x => h.get? a = some (PySem.W.methodObj (.ref f) (.ref x))
  | .ext φ => φ h ∧ (∃ o, h.get? a = some o) ∧ ∀ h1 h2 : Heap, φ h1 → (∀ o, h1.get? a = some o → h2.get? a = some o) → φ h2
/-- the abstract heap is held -/
def HOk (H : Hp) (h : Heap) : Prop := ∀ a o, H a = some o → ObjOk P w H h a o
end

section
variable {P : Program} {w : World} {H H' : Hp} {h h' : Heap} {a : Addr} {o : HO}
theorem ObjOk.lt (x : ObjOk P w H h a o) : a < h.objs.size := by
  cases o with
  | lst xs => obtain ⟨_, _, _, _, e⟩ := x; exact Heap.lt_size e
  | tup xs => obtain ⟨_, _, _, p⟩ := x; exact p.lt
  | dK kvs => obtain ⟨_, _, _, _, o, _, _, e, _⟩ := x; exact Heap.lt_size e
  | dT kvs => obtain ⟨_, _, _, _, o, _, _, e, _⟩ := x; exact Heap.lt_size e
  | set S n => obtain ⟨o, _, _, _, e, _⟩ := x; exact Heap.lt_size e
  | ins C dx fs => obtain ⟨_, _, _, e, _⟩ := x; exact Heap.lt_size e
  | own y => obtain ⟨_, e⟩ := x; exact Heap.lt_size e
  | xd fs => obtain ⟨_, ⟨_, _, _, e, _⟩, _⟩ := x; exact Heap.lt_size e
  | rng lo hi => obtain ⟨_, _, _, e⟩ := x; exact Heap.lt_size e
  | frz ob u => obtain ⟨e, _⟩ := x; exact Heap.lt_size e
  | tbl ps => exact Heap.lt_size (show h.get? a = some _ from x)
  | met f y => exact Heap.lt_size (show h.get? a = some _ from x)
  | ext φ => obtain ⟨_, ⟨_, e⟩, _⟩ := x; exact Heap.lt_size e
theorem Paired.mapP {α β : Type} {F G : α → β → Prop} : ∀ {l₁ : List α} {l₂ : List β}, Paired F l₁ l₂ → (∀ a b, F a b → G a b) → Paired G l₁ l₂
  | _, _, .nil, _ => .nil
  | _, _, .cons r t, f => .cons (f _ _ r) (Paired.mapP t f)
/-- what an object's description leans on: its own object, its own dict, the tuples -/
theorem ObjOk.stay (x : ObjOk P w H h a o) (k : ∀ b u, (b = a ∨ H b = some (.own a)) → h.get? b = some u → h'.get? b = some u)
    (ho : ∀ b, H b = some (.own a) → H' b = some (.own a)) (ht : ∀ b xs, H b = some (.tup xs) → H' b = some (.tup xs)) : ObjOk P w H' h' a o := by
  induction o with
  | lst xs => obtain ⟨z, its, n, r, e⟩ := x; exact ⟨z, its, n, r, k _ _ (.inl rfl) e⟩
  | tup xs => obtain ⟨z, its, r, ob, e, c⟩ := x; exact ⟨z, its, r, ob, k _ _ (.inl rfl) e, c⟩
  | dK kvs => obtain ⟨z, y, vs, r, ob, es, ep, e, c⟩ := x; exact ⟨z, y, vs, r, ob, es, ep, k _ _ (.inl rfl) e, c⟩
  | dT kvs =>
    obtain ⟨z, y, xs, r, ob, es, ep, e, c⟩ := x
    exact ⟨z, y, xs, Paired.mapP r fun p q z => ⟨z.1, ht _ _ z.2.1, z.2.2⟩, ob, es, ep, k _ _ (.inl rfl) e, c⟩
  | set S n => obtain ⟨ob, es, ep, t, e, c⟩ := x; exact ⟨ob, es, ep, t, k _ _ (.inl rfl) e, c⟩
  | ins C dx fs =>
    obtain ⟨d, z, ne, e, mA, ⟨od, es, ep, e2, c⟩, r⟩ := x
    exact ⟨ho _ d, z, ne, k _ _ (.inl rfl) e, mA, ⟨od, es, ep, k _ _ (.inr d) e2, c⟩, r⟩
  | own y => obtain ⟨ob, e⟩ := x; exact ⟨ob, k _ _ (.inl rfl) e⟩
  | xd fs => obtain ⟨mA, ⟨od, es, ep, e, c⟩, r⟩ := x; exact ⟨mA, ⟨od, es, ep, k _ _ (.inl rfl) e, c⟩, r⟩
  | rng lo hi => obtain ⟨t, u, v, e⟩ := x; exact ⟨t, u, v, k _ _ (.inl rfl) e⟩
  | frz ob u ih => obtain ⟨e, q⟩ := x; exact ⟨k _ _ (.inl rfl) e, ih q⟩
  | tbl ps =>
    have e : h.get? a = some { cls := .none, data := .fields ps } := x
    show h'.get? a = some { cls := .none, data := .fields ps }
    exact k a _ (.inl rfl) e
  | met f y =>
    have e : h.get? a = some (PySem.W.methodObj (.ref f) (.ref y)) := x
    show h'.get? a = some (PySem.W.methodObj (.ref f) (.ref y))
    exact k a _ (.inl rfl) e
  | ext φ => obtain ⟨p, ⟨o, e⟩, st⟩ := x; exact ⟨st _ _ p fun o q => k _ _ (.inl rfl) q, ⟨o, k _ _ (.inl rfl) e⟩, st⟩
theorem HOk.lt (x : HOk P w H h) (e : H a = some o) : a < h.objs.size := (x a o e).lt
theorem HOk.fresh (x : HOk P w H h) (e : h.objs.size ≤ a) : H a = none := by
  cases q : H a with
  | none => rfl
  | some u => exact absurd (Nat.lt_of_lt_of_le (x.lt q) e) (Nat.lt_irrefl _)
/-- every object of the heap is kept -/
theorem HOk.kept (x : HOk P w H h) (k : ∀ b u, h.get? b = some u → h'.get? b = some u) : HOk P w H h' := fun a o e =>
  (x a o e).stay (fun b u _ q => k b u q) (fun _ q => q) fun _ _ q => q
/-- a new object is laid and tracked -/
theorem HOk.laid (x : HOk P w H h) (k : ∀ b u, h.get? b = some u → h'.get? b = some u) (hp : h.objs.size ≤ a) (new : ObjOk P w (upd H a o) h' a o) : HOk P w (upd H a o) h' := fun b u e => by
  have hn := x.fresh hp
  by_cases hb : b = a
  · subst hb; rw [upd_same] at e; cases e; exact new
  · rw [upd_ne hb] at e
    exact (x b u e).stay (fun c v _ q => k c v q) (fun c q => by rw [upd_ne (ne_of_none q hn)]; exact q) fun c xs q => by rw [upd_ne (ne_of_none q hn)]; exact q
end

/-- what may be read as u: it is u, or a known u -/
def Rd (H : Hp) (a : Addr) (u : HO) : Prop := H a = some u ∨ ∃ o, H a = some (.frz o u)
theorem Rd.ok {P : Program} {w : World} {H : Hp} {h : Heap} {a : Addr} {u : HO} (r : Rd H a u) (x : HOk P w H h) : ObjOk P w H h a u := by
  rcases r with r | ⟨o, r⟩
  · exact x a u r
  · obtain ⟨_, q⟩ := x a _ r
    exact q
/-- what may be written -/
def Mut : Option HO → Prop
  | some (.lst _) => True
  | some (.dK _) => True
  | some (.dT _) => True
  | some (.set _ _) => True
  | some (.ins _ _ _) => True
  | some (.ext _) => True
  | _ => False
section
variable {P : Program} {w : World} {H : Hp} {h h' : Heap} {x e : Addr} {o' : HO}
/-- the object at e is changed: x itself, or the dict of the instance x -/
theorem HOk.write (ok : HOk P w H h) (mu : Mut (H x)) (he : e = x ∨ H e = some (.own x)) (k : ∀ b u, b ≠ e → h.get? b = some u → h'.get? b = some u) (heo : ∃ u, h'.get? e = some u)
    (new : ObjOk P w (upd H x o') h' x o') : HOk P w (upd H x o') h' := fun b u q => by
  have nown : ∀ c y, H c = some (.own y) → c ≠ x := fun c y r z => by subst z; rw [r] at mu; exact mu
  have ntup : ∀ c xs, H c = some (.tup xs) → c ≠ x := fun c xs r z => by subst z; rw [r] at mu; exact mu
  by_cases hb : b = x
  · subst hb; rw [upd_same] at q; cases q; exact new
  · rw [upd_ne hb] at q
    by_cases hbe : b = e
    · have q' : H b = some (.own x) := by
        rcases he with z | z
        · exact absurd (hbe.trans z) hb
        · rw [hbe]; exact z
      rw [q] at q'; cases q'
      obtain ⟨v, hv⟩ := heo
      exact ⟨v, by rw [hbe]; exact hv⟩
    · refine (ok b u q).stay (fun c v hc r => k c v ?_ r) (fun c r => by rw [upd_ne (nown c b r)]; exact r) fun c xs r => by rw [upd_ne (ntup c xs r)]; exact r
      rcases hc with rfl | hc
      · exact hbe
      · rintro rfl
        rcases he with z | z
        · exact nown c b hc z
        · rw [hc] at z; cases z; exact hb rfl
end

/-! ### kept unless tracked; of the frames at fs (the callers') the slots may change (an exception that passes writes there); of the records at ex (iterators) nothing is said -/
structure Un (fs ex : List Addr) (H H' : Hp) (h h' : Heap) : Prop where
  keep : ∀ b o, h.get? b = some o → H b = none → b ∉ fs → b ∉ ex → h'.get? b = some o
  slot : ∀ b o, h.get? b = some o → H b = none → b ∈ fs → b ∉ ex → ∃ sl, h'.get? b = some { o with slots := sl }
  free : ∀ b o, h.get? b = some o → H b = none → b ∉ ex → H' b = none
  there : ∀ b o, h.get? b = some o → b ∉ ex → ∃ o', h'.get? b = some o'
  tups : ∀ b xs, H b = some (.tup xs) → H' b = some (.tup xs)
  frzs : ∀ b o u, H b = some (.frz o u) → H' b = some (.frz o u)
  tbls : ∀ b ps, H b = some (.tbl ps) → ∃ more, H' b = some (.tbl (ps ++ more))
section
variable {fs fs' ex ex' : List Addr} {H H1 H2 : Hp} {h h1 h2 h' : Heap} {a x e : Addr} {o : HO}
theorem Un.any (u : Un fs ex H H1 h h1) {b : Addr} {ob : Obj} (q : h.get? b = some ob) (n : H b = none) (hx : b ∉ ex) : ∃ sl, h1.get? b = some { ob with slots := sl } := by
  by_cases hb : b ∈ fs
  · exact u.slot b ob q n hb hx
  · exact ⟨ob.slots, u.keep b ob q n hb hx⟩
theorem Un.kept (k : ∀ b u, h.get? b = some u → h'.get? b = some u) : Un fs ex H H h h' :=
  ⟨fun b ob q _ _ _ => k b ob q, fun b ob q _ _ _ => ⟨ob.slots, k b ob q⟩, fun _ _ _ n _ => n, fun b ob q _ => ⟨ob, k b ob q⟩, fun _ _ q => q, fun _ _ _ q => q, fun _ ps q => ⟨#[], by rw [q]; simp⟩⟩
theorem Un.refl : Un fs ex H H h h := Un.kept fun _ _ q => q
theorem Un.laid (k : ∀ b u, h.get? b = some u → h'.get? b = some u) (hp : h.objs.size ≤ a) (hn : H a = none) : Un fs ex H (upd H a o) h h' where
  keep := fun b u q _ _ _ => k b u q
  slot := fun b u q _ _ _ => ⟨u.slots, k b u q⟩
  free := fun b u q n _ => by rw [upd_ne (Nat.ne_of_lt (Nat.lt_of_lt_of_le (Heap.lt_size q) hp))]; exact n
  there := fun b u q _ => ⟨u, k b u q⟩
  tups := fun b xs q => by rw [upd_ne (ne_of_none q hn)]; exact q
  frzs := fun b u xs q => by rw [upd_ne (ne_of_none q hn)]; exact q
  tbls := fun b ps q => ⟨#[], by rw [upd_ne (ne_of_none q hn), q]; simp⟩
theorem Un.write (mu : Mut (H x)) (he : e = x ∨ H e = some (.own x)) (k : ∀ b u, b ≠ e → h.get? b = some u → h'.get? b = some u) (heo : ∃ u, h'.get? e = some u) : Un fs ex H (upd H x o) h h' := by
  have hx : ∀ b, H b = none → b ≠ x := fun b n z => by subst z; rw [n] at mu; exact mu
  have hb : ∀ b, H b = none → b ≠ e := fun b n z => by
    subst z
    rcases he with r | r
    · exact hx b n r
    · rw [n] at r; cases r
  have hm : ∀ b u, H b = some u → ¬ Mut (some u) → b ≠ x := fun b u q nm z => by subst z; rw [q] at mu; exact nm mu
  refine ⟨fun b u q n _ _ => k b u (hb b n) q, fun b u q n _ _ => ⟨u.slots, k b u (hb b n) q⟩, fun b u q n _ => by rw [upd_ne (hx b n)]; exact n, fun b u q _ => ?_,
    fun b xs q => by rw [upd_ne (hm b _ q fun z => z)]; exact q, fun b u xs q => by rw [upd_ne (hm b _ q fun z => z)]; exact q, fun b ps q => ⟨#[], by rw [upd_ne (hm b _ q fun z => z), q]; simp⟩⟩
  by_cases hbe : b = e
  · subst hbe; exact heo
  · exact ⟨u, k b u hbe q⟩
end

/-! ### the heap without what is tracked -/
def trk (h : Heap) (H : Hp) : List Addr := (List.range h.objs.size).filter fun a => (H a).isSome
def hidT (h : Heap) (H : Hp) : Heap := PySem.W.hideAll h (trk h H)
theorem hidT_size (h : Heap) (H : Hp) : (hidT h H).objs.size = h.objs.size := PySem.W.hideAll_size _ _
theorem hidT_get {h : Heap} {H : Hp} {b : Addr} {o : Obj} (e : h.get? b = some o) (n : H b = none) : (hidT h H).get? b = some o :=
  PySem.W.hideAll_get _ e fun hm => by
    have q : (H b).isSome = true := (List.mem_filter.mp hm).2
    rw [n] at q; simp at q
theorem of_hidT {h : Heap} {H : Hp} {b : Addr} {o : Obj} (e : (hidT h H).get? b = some o) : h.get? b = some o ∧ H b = none := by
  have e' : h.get? b = some o := PySem.W.of_hideAll (trk h H) e
  refine ⟨e', ?_⟩
  cases q : H b with
  | none => rfl
  | some x =>
    have hm : b ∈ trk h H := List.mem_filter.mpr ⟨List.mem_range.mpr (Heap.lt_size e'), by simp [q]⟩
    have z : (hidT h H).get? b = none := PySem.W.hideAll_none (trk h H) hm
    rw [z] at e; cases e

/-! ### OpenK's ledger, filled with every new object but one -/
end L2

namespace L2
open PySem PySem.Spec PyProof.Rows

/-- the module's facts, over the base: the heap at the law's entry without what is tracked there -/
structure Mod (K : PySem.W.Frag) (mg : Str → Option Value) (base : Heap) : Prop where
  kin : K.In base
  glob : base.Ns mainGlobals mg
  blt : ∃ mb, base.Ns builtinsNs mb ∧ ∀ x : Str, x ≠ "__name__" → mb x = bootBuiltins x
  nolimit : base.NoLimit

/-- the context: a def's body (or a comprehension's block) running. base: fixed through the whole law; s₀, H₀: the entry; outer: the frames whose slots others may change (a def's callers); stack: all frames that run;
   ex: iterators that were made ahead of the entry and are walked here (a comprehension's); fn: the names whose cells were made at the entry (a def: all; a comprehension's block: its own); calm: not within an except suite; pn: pins that every state bears; xe: what is wanted of an exception that leaves the code -/
structure Cx where
  prog : Program
  w : World
  K : PySem.W.Frag
  mg : Str → Option Value
  base : Heap
  A : Around
  N : List Str
  s₀ : Shared
  H₀ : Hp
  env : Env
  outer : List Env
  stack : List Env
  ex : List Addr
  fn : Str → Bool
  calm : Bool
  pn : List (Addr × Obj)
  xe : Value → Shared → Prop
/-- the callers' frames -/
def frs (l : List Env) : List Addr := l.filterMap (·.frame)
abbrev Cx.fs (X : Cx) : List Addr := frs X.outer

def Vis (sc : Scope) (x : Str) : Prop := sc.names.lookup x = some .local ∨ sc.names.lookup x = some .cell ∨ sc.names.lookup x = some .free
def Loc (sc : Scope) (x : Str) : Prop := sc.names.lookup x = some .local ∨ sc.names.lookup x = some .cell
def Look (env : Env) (h : Heap) (m : Str → Option Value) (x : Str) (u : Value) : Prop :=
  (env.kindOf x = some .local ∧ m x = some u) ∨ ((env.kindOf x = some .cell ∨ env.kindOf x = some .free) ∧ ∃ c, env.cells.lookup x = some c ∧ h.IsCell c (some u))

structure Cx.Ok (X : Cx) : Prop where
  mod : Mod X.K X.mg X.base
  kind : X.env.scope.kind = .function
  glob : X.env.globals = mainGlobals
  blt : X.env.builtins = builtinsNs
  above : X.s₀.heap.objs.size ≤ X.env.locals
  inj : ∀ x y c, X.env.cells.lookup x = some c → X.env.cells.lookup y = some c → x = y
  has : ∀ x, (X.env.kindOf x = some .cell ∨ X.env.kindOf x = some .free) → ∃ c, X.env.cells.lookup x = some c
  cab : ∀ x c, X.fn x = true → X.env.cells.lookup x = some c → X.s₀.heap.objs.size ≤ c
  hd : X.calm = true → X.A.handled = none
  frames : X.A.frames = some X.stack
  stk : X.stack = X.outer ∨ (X.stack = X.env :: X.outer ∧ X.env.frame = some X.env.locals)
  exf : ∀ b ∈ X.ex, b ≠ X.env.locals ∧ ∀ x c, X.env.cells.lookup x = some c → c ≠ b
  bs : ∀ b o, X.base.get? b = some o → X.s₀.heap.get? b = some o ∧ X.H₀ b = none
  bsz : X.base.objs.size ≤ X.s₀.heap.objs.size
  noex : ∀ b o, X.base.get? b = some o → b ∉ X.ex
  exfs : ∀ b ∈ X.ex, b ∉ X.fs
  funs : X.s₀.heap.FunFrames X.base X.outer
  frf : ∀ b ∈ X.fs, X.H₀ b = none

structure Inv (X : Cx) (pins : List (Addr × Obj)) (σ : List (Option V)) (H : Hp) (s : Shared) : Prop where
  ok : X.Ok
  os : s.os = X.s₀.os
  bare : AllBare s.gens
  base : Un X.fs X.ex X.H₀ H X.s₀.heap s.heap
  loc : ∃ m, s.heap.Ns X.env.locals m ∧ ∀ (i : Nat) (x : Str) (v : V), X.N[i]? = some x → σ[i]? = some (some v) → Vis X.env.scope x → ∃ u, RelV v u ∧ Look X.env s.heap m x u
  cell : ∀ x c, X.env.cells.lookup x = some c → ∃ v, s.heap.IsCell c v
  free : H X.env.locals = none
  freeC : ∀ x c, X.env.cells.lookup x = some c → H c = none
  pin : ∀ p ∈ X.pn ++ pins, s.heap.get? p.1 = some p.2 ∧ H p.1 = none ∧ p.1 ≠ X.env.locals ∧ p.1 ∉ X.fs ∧ ∀ v, p.2.data ≠ .cell v
  hok : HOk X.prog X.w H s.heap
  len : σ.length = X.N.length

section
variable {X : Cx} {pins : List (Addr × Obj)} {σ : List (Option V)} {H H' : Hp} {s : Shared} {h' : Heap}

theorem Cx.Ok.nofr (ok : X.Ok) {b : Addr} {o : Obj} (e : X.base.get? b = some o) : b ∉ X.fs := fun hb => by
  have := (ok.funs.mem hb).1
  rw [e] at this; cases this
theorem Inv.bs (I : Inv X pins σ H s) : ∀ b o, X.base.get? b = some o → s.heap.get? b = some o ∧ H b = none := fun b o e =>
  ⟨I.base.keep b o (I.ok.bs b o e).1 (I.ok.bs b o e).2 (I.ok.nofr e) (I.ok.noex b o e), I.base.free b o (I.ok.bs b o e).1 (I.ok.bs b o e).2 (I.ok.noex b o e)⟩
theorem Inv.bk (I : Inv X pins σ H s) : ∀ b o, X.base.get? b = some o → s.heap.get? b = some o := fun b o e => (I.bs b o e).1
theorem Inv.mod (I : Inv X pins σ H s) : Mod X.K X.mg X.base := I.ok.mod
theorem Inv.kIn (I : Inv X pins σ H s) : X.K.In s.heap := I.ok.mod.kin.keeps I.bk
theorem Inv.lt (I : Inv X pins σ H s) : X.env.locals < s.heap.objs.size := let ⟨_, hn, _⟩ := I.loc; hn.lt
theorem Inv.sz (I : Inv X pins σ H s) : X.s₀.heap.objs.size ≤ s.heap.objs.size := Nat.le_trans I.ok.above (Nat.le_of_lt I.lt)
theorem Inv.nofs (I : Inv X pins σ H s) {a : Addr} (h : s.heap.objs.size ≤ a) : a ∉ X.fs := fun hb => by
  obtain ⟨_, o, ho, _⟩ := I.ok.funs.mem hb
  exact absurd (Nat.lt_of_lt_of_le (Heap.lt_size ho) (Nat.le_trans I.sz h)) (Nat.lt_irrefl _)
theorem Inv.cne (I : Inv X pins σ H s) : ∀ x c, X.env.cells.lookup x = some c → c ≠ X.env.locals := fun x c e z => by
  obtain ⟨v, o, ho, hd⟩ := I.cell x c e
  obtain ⟨m, ⟨o', es, ep, ho', hd', _⟩, _⟩ := I.loc
  rw [z, ho'] at ho; cases ho; rw [hd'] at hd; cases hd
theorem Inv.funs (I : Inv X pins σ H s) : s.heap.FunFrames X.base X.outer := by
  have all : ∀ (l : List Env), (∀ b ∈ frs l, b ∈ X.fs) → X.s₀.heap.FunFrames X.base l → s.heap.FunFrames X.base l := by
    intro l
    induction l with
    | nil => intro _ _; trivial
    | cons env r ih =>
      intro hs hl
      obtain ⟨hk, ⟨L, o, hf, hn, ho, hd⟩, hr⟩ := hl
      have hL : L ∈ X.fs := hs L (by unfold frs; rw [List.filterMap_cons, hf]; exact List.mem_cons_self)
      obtain ⟨sl, e⟩ := I.base.slot L o ho (I.ok.frf L hL) hL fun z => I.ok.exfs L z hL
      exact ⟨hk, ⟨L, _, hf, hn, e, hd⟩, ih (fun b hb => hs b (by unfold frs; rw [List.filterMap_cons, hf]; exact List.mem_cons_of_mem _ hb)) hr⟩
  exact all X.outer (fun _ hb => hb) I.ok.funs

/-- the frames that run, for a call -/
theorem Inv.stack (I : Inv X pins σ H s) : s.heap.FunFrames X.base X.stack := by
  rcases I.ok.stk with e | ⟨e, hf⟩
  · rw [e]; exact I.funs
  · rw [e]
    obtain ⟨m, hn, _⟩ := I.loc
    refine .cons (by rw [I.ok.kind]; decide) hf hn ?_ I.funs
    exact Heap.get?_none_of_le (Nat.le_trans I.ok.bsz I.ok.above)
theorem Inv.stkSub (I : Inv X pins σ H s) : ∀ b ∈ frs X.stack, b ∈ X.env.locals :: X.fs := fun b hb => by
  rcases I.ok.stk with e | ⟨e, hf⟩
  · rw [e] at hb; exact List.mem_cons_of_mem _ hb
  · rw [e] at hb
    unfold frs at hb
    rw [List.filterMap_cons, hf] at hb
    exact hb
theorem Inv.stkFree (I : Inv X pins σ H s) : ∀ b ∈ frs X.stack, H b = none := fun b hb => by
  rcases List.mem_cons.mp (I.stkSub b hb) with e | hb
  · rw [e]; exact I.free
  · obtain ⟨_, o, ho, _⟩ := I.ok.funs.mem hb
    exact I.base.free b o ho (I.ok.frf b hb) fun z => I.ok.exfs b z hb

/-- THE STEP: the untracked objects but the frame and the records at ch are kept (the callers' frames up to slots), the frame's map is kept, the new abstract heap is held -/
theorem Inv.step {g' : Array GenState} {t' : Nat} {d' : Drawn} {ch : List Addr} (I : Inv X pins σ H s)
    (hch : ∀ b ∈ ch, (b ∈ X.ex ∨ X.s₀.heap.objs.size ≤ b) ∧ b ≠ X.env.locals ∧ (∀ x c, X.env.cells.lookup x = some c → c ≠ b) ∧ ∀ p ∈ X.pn ++ pins, p.1 ≠ b)
    (keep : ∀ b o, b ≠ X.env.locals → b ∉ X.fs → b ∉ ch → s.heap.get? b = some o → H b = none → h'.get? b = some o)
    (slot : ∀ b o, b ≠ X.env.locals → b ∈ X.fs → b ∉ ch → s.heap.get? b = some o → H b = none → ∃ sl, h'.get? b = some { o with slots := sl }) (free : ∀ b o, b ∉ ch → s.heap.get? b = some o → H b = none → H' b = none)
    (there : ∀ b o, b ∉ ch → s.heap.get? b = some o → ∃ o', h'.get? b = some o')
    (tups : ∀ b xs, H b = some (.tup xs) → H' b = some (.tup xs)) (frzs : ∀ b o u, H b = some (.frz o u) → H' b = some (.frz o u)) (tbls : ∀ b ps, H b = some (.tbl ps) → ∃ more, H' b = some (.tbl (ps ++ more)))
    (ns : ∀ m, s.heap.Ns X.env.locals m → h'.Ns X.env.locals m) (hok : HOk X.prog X.w H' h') (hg : AllBare g') :
    Inv X pins σ H' { s with heap := h', gens := g', drawn := d', toks := t' } := by
  have neL : ∀ b o, X.s₀.heap.get? b = some o → b ≠ X.env.locals := fun b o e => Nat.ne_of_lt (Nat.lt_of_lt_of_le (Heap.lt_size e) I.ok.above)
  have neC : ∀ b o, X.s₀.heap.get? b = some o → b ∉ X.ex → b ∉ ch := fun b o e hx hb => by
    rcases (hch b hb).1 with z | z
    · exact hx z
    · exact absurd (Nat.lt_of_lt_of_le (Heap.lt_size e) z) (Nat.lt_irrefl _)
  have cellK : ∀ x c, X.env.cells.lookup x = some c → ∀ v, s.heap.IsCell c v → h'.IsCell c v := fun x c e v ⟨o, ho, hd⟩ => by
    have nch : c ∉ ch := fun z => (hch c z).2.2.1 x c e rfl
    by_cases hc : c ∈ X.fs
    · obtain ⟨sl, q⟩ := slot c o (I.cne x c e) hc nch ho (I.freeC x c e)
      exact ⟨_, q, hd⟩
    · exact ⟨o, keep c o (I.cne x c e) hc nch ho (I.freeC x c e), hd⟩
  refine ⟨I.ok, I.os, hg, ⟨fun b o e n hb hx => ?_, fun b o e n hb hx => ?_, fun b o e n hx => ?_, fun b o e hx => ?_, fun b xs e => tups b xs (I.base.tups b xs e), fun b o xs e => frzs b o xs (I.base.frzs b o xs e), fun b ps e => ?_⟩, ?_, fun x c e => ?_, ?_, fun x c e => ?_, fun p hp => ?_, hok, I.len⟩
  · exact keep b o (neL b o e) hb (neC b o e hx) (I.base.keep b o e n hb hx) (I.base.free b o e n hx)
  · obtain ⟨sl, e1⟩ := I.base.slot b o e n hb hx
    obtain ⟨sl', e2⟩ := slot b _ (neL b o e) hb (neC b o e hx) e1 (I.base.free b o e n hx)
    exact ⟨sl', e2⟩
  · obtain ⟨o', e1⟩ := I.base.there b o e hx
    exact free b o' (neC b o e hx) e1 (I.base.free b o e n hx)
  · obtain ⟨o', e1⟩ := I.base.there b o e hx
    exact there b o' (neC b o e hx) e1
  · obtain ⟨m1, e1⟩ := I.base.tbls b ps e
    obtain ⟨m2, e2⟩ := tbls b _ e1
    exact ⟨m1 ++ m2, by rw [e2, Array.append_assoc]⟩
  · obtain ⟨m, hn, hl⟩ := I.loc
    refine ⟨m, ns m hn, fun i x v e1 e2 e3 => ?_⟩
    obtain ⟨u, r, l⟩ := hl i x v e1 e2 e3
    refine ⟨u, r, ?_⟩
    rcases l with l | ⟨k, c, e, z⟩
    · exact .inl l
    · exact .inr ⟨k, c, e, cellK x c e _ z⟩
  · obtain ⟨v, z⟩ := I.cell x c e
    exact ⟨v, cellK x c e v z⟩
  · obtain ⟨m, ⟨o, _, _, ho, _⟩, _⟩ := I.loc
    exact free _ o (fun z => (hch _ z).2.1 rfl) ho I.free
  · obtain ⟨v, o, ho, hd⟩ := I.cell x c e
    exact free c o (fun z => (hch c z).2.2.1 x c e rfl) ho (I.freeC x c e)
  · obtain ⟨e, n, ne, nf, d⟩ := I.pin p hp
    have nch : p.1 ∉ ch := fun z => (hch p.1 z).2.2.2 p hp rfl
    exact ⟨keep p.1 p.2 ne nf nch e n, free p.1 p.2 nch e n, ne, nf, d⟩
/-- .. where the frame's own object is kept too -/
theorem Inv.un {t' : Nat} (I : Inv X pins σ H s) (u : Un X.fs [] H H' s.heap h') (hok : HOk X.prog X.w H' h') : Inv X pins σ H' { s with heap := h', toks := t' } := by
  obtain ⟨m, ⟨o, es, ep, ho, r⟩, _⟩ := id I.loc
  obtain ⟨sl, hL⟩ := u.any ho I.free (by simp)
  exact I.step (g' := s.gens) (d' := s.drawn) (ch := []) (fun _ z => nomatch z) (fun b o _ hb _ e n => u.keep b o e n hb (by simp)) (fun b o _ hb _ e n => u.slot b o e n hb (by simp)) (fun b o _ e n => u.free b o e n (by simp)) (fun b o _ e => u.there b o e (by simp)) u.tups u.frzs u.tbls (fun m' hm => by
    obtain ⟨o', es', ep', ho', r'⟩ := hm
    rw [ho] at ho'; cases ho'
    exact ⟨_, es', ep', hL, r'⟩) hok I.bare
/-- behind a call (or a comprehension's block): the slots of this frame may have changed too, the records at ch may have turned -/
theorem Inv.call {g' : Array GenState} {t' : Nat} {d' : Drawn} {ch : List Addr} (I : Inv X pins σ H s) (u : Un (frs X.stack) ch H H' s.heap h') (hok : HOk X.prog X.w H' h') (hg : AllBare g')
    (hch : ∀ b ∈ ch, (b ∈ X.ex ∨ X.s₀.heap.objs.size ≤ b) ∧ b ≠ X.env.locals ∧ (∀ x c, X.env.cells.lookup x = some c → c ≠ b) ∧ ∀ p ∈ X.pn ++ pins, p.1 ≠ b) :
    Inv X pins σ H' { s with heap := h', gens := g', drawn := d', toks := t' } := by
  obtain ⟨m, ⟨o, es, ep, ho, r⟩, _⟩ := id I.loc
  obtain ⟨sl, hL⟩ := u.any ho I.free fun z => (hch _ z).2.1 rfl
  exact I.step (ch := ch) hch (fun b o hL hb hc e n => u.keep b o e n (fun z => (List.mem_cons.mp (I.stkSub b z)).elim hL hb) hc) (fun b o _ _ hc e n => u.any e n hc) (fun b o hc e n => u.free b o e n hc) (fun b o hc e => u.there b o e hc) u.tups u.frzs u.tbls (fun m' hm => by
    obtain ⟨o', es', ep', ho', r'⟩ := hm
    rw [ho] at ho'; cases ho'
    exact ⟨_, es', ep', hL, r'⟩) hok hg
/-- an untracked record of ours (an iterator) has turned -/
theorem Inv.turned {t' : Nat} {it : Addr} (I : Inv X pins σ H s) (k : ∀ b o, b ≠ it → s.heap.get? b = some o → h'.get? b = some o) (hn : H it = none) (hL : it ≠ X.env.locals)
    (h1 : it ∈ X.ex ∨ X.s₀.heap.objs.size ≤ it) (h2 : ∀ x c, X.env.cells.lookup x = some c → c ≠ it) (h3 : ∀ p ∈ X.pn ++ pins, p.1 ≠ it) : Inv X pins σ H { s with heap := h', toks := t' } := by
  have nit : ∀ b u, H b = some u → b ≠ it := fun b u e z => by rw [z, hn] at e; cases e
  refine I.step (g' := s.gens) (d' := s.drawn) (ch := [it]) (fun b hb => ?_) (fun b o _ _ hc e _ => k b o (fun z => hc (by simp [z])) e) (fun b o _ _ hc e _ => ⟨o.slots, k b o (fun z => hc (by simp [z])) e⟩) (fun _ _ _ _ n => n)
    (fun b o hc e => ⟨o, k b o (fun z => hc (by simp [z])) e⟩) (fun _ _ e => e) (fun _ _ _ e => e) (fun b ps e => ⟨#[], by rw [e]; simp⟩) (fun m hm => ?_) (fun b u e => ?_) I.bare
  · have e : b = it := by simpa using hb
    subst e
    exact ⟨h1, hL, h2, h3⟩
  · obtain ⟨o, es, ep, ho, r⟩ := hm
    exact ⟨o, es, ep, k _ o (Ne.symm hL) ho, r⟩
  · refine (I.hok b u e).stay (fun c v hc q => k c v ?_ q) (fun _ q => q) fun _ _ q => q
    rcases hc with z | z
    · rw [z]; exact nit b u e
    · exact nit c _ z
theorem Inv.tok (I : Inv X pins σ H s) (t : Nat) : Inv X pins σ H { s with toks := t } := I.un (h' := s.heap) (t' := t) Un.refl I.hok
/-- all objects kept -/
theorem Inv.kept {t' : Nat} (I : Inv X pins σ H s) (k : ∀ b u, s.heap.get? b = some u → h'.get? b = some u) : Inv X pins σ H { s with heap := h', toks := t' } := I.un (Un.kept k) (I.hok.kept k)
/-- a new object laid and tracked -/
theorem Inv.laid {a : Addr} {o : HO} {t' : Nat} (I : Inv X pins σ H s) (k : ∀ b u, s.heap.get? b = some u → h'.get? b = some u) (hp : s.heap.objs.size ≤ a) (new : ObjOk X.prog X.w (upd H a o) h' a o) :
    Inv X pins σ (upd H a o) { s with heap := h', toks := t' } := I.un (Un.laid k hp (I.hok.fresh hp)) (I.hok.laid k hp new)
/-- an object written -/
theorem Inv.write {x e : Addr} {o : HO} {t' : Nat} (I : Inv X pins σ H s) (mu : Mut (H x)) (he : e = x ∨ H e = some (.own x)) (k : ∀ b u, b ≠ e → s.heap.get? b = some u → h'.get? b = some u) (heo : ∃ u, h'.get? e = some u)
    (new : ObjOk X.prog X.w (upd H x o) h' x o) : Inv X pins σ (upd H x o) { s with heap := h', toks := t' } := I.un (Un.write mu he k heo) (I.hok.write mu he k heo new)
/-- forgetting slots, pins -/
theorem Inv.weak {σ' : List (Option V)} (I : Inv X pins σ H s) (hl : σ'.length = σ.length) (w : ∀ (i : Nat) v, σ'[i]? = some (some v) → σ[i]? = some (some v)) : Inv X pins σ' H s :=
  ⟨I.ok, I.os, I.bare, I.base, let ⟨m, hn, hl'⟩ := I.loc; ⟨m, hn, fun i x v e1 e2 e3 => hl' i x v e1 (w i v e2) e3⟩, I.cell, I.free, I.freeC, I.pin, I.hok, hl.trans I.len⟩
theorem Inv.pins_of {pins' : List (Addr × Obj)} (I : Inv X pins σ H s) (h : ∀ p ∈ pins', s.heap.get? p.1 = some p.2 ∧ H p.1 = none ∧ p.1 ≠ X.env.locals ∧ p.1 ∉ X.fs ∧ ∀ v, p.2.data ≠ .cell v) : Inv X pins' σ H s :=
  ⟨I.ok, I.os, I.bare, I.base, I.loc, I.cell, I.free, I.freeC, fun p hp => (List.mem_append.mp hp).elim (fun z => I.pin p (List.mem_append_left _ z)) (h p), I.hok, I.len⟩

theorem nodup_ix {N : List Str} (hN : N.Nodup) {i j : Nat} {x : Str} (a : N[i]? = some x) (b : N[j]? = some x) : i = j := by
  obtain ⟨h1, e1⟩ := List.getElem?_eq_some_iff.mp a
  obtain ⟨h2, e2⟩ := List.getElem?_eq_some_iff.mp b
  exact (List.getElem_inj hN).mp (e1.trans e2.symm)

/-- a name is stored; what changed -/
theorem store_ok2 {M : Model} {A : Around} {E : Value → Shared → Prop} {i : Nat} {x : Str} {v : V} {u : Value} {Q : Unit → Shared → Prop} (I : Inv X pins σ H s) (hN : X.N.Nodup) (hi : X.N[i]? = some x) (hx : Loc X.env.scope x) (r : RelV v u)
    (h : ∀ s', Inv X pins (σ.set i (some v)) H s' → (∃ a, Heap.SameBut a s.heap s'.heap ∧ (a = X.env.locals ∨ X.env.cells.lookup x = some a)) → Q () s') (hf : X.fn x = true ∨ X.env.scope.names.lookup x = some .local := by first | exact .inl rfl | exact .inr rfl | assumption) : wpAny M A (storeName X.env x u) Q E s := by
  obtain ⟨m, hn, hl⟩ := id I.loc
  have hcls : (X.env.scope.kind == .class || (X.env.scope.kind == .module && X.env.locals != X.env.globals)) = false := by rw [I.ok.kind]; rfl
  have hiσ : i < σ.length := by rw [I.len]; exact (List.getElem?_eq_some_iff.mp hi).1
  have cne := I.cne
  have tracked : ∀ {a : Addr} {h' : Heap}, (∃ o, s.heap.get? a = some o ∧ H a = none) → Heap.SameBut a s.heap h' → HOk X.prog X.w H h' := fun {a h'} ha hs b ob e => by
    obtain ⟨_, _, hfree⟩ := ha
    refine (I.hok b ob e).stay (fun c w' hc q => (hs.2 c ?_).trans q) (fun _ q => q) fun _ _ q => q
    rintro rfl
    rcases hc with rfl | hc
    · rw [hfree] at e; cases e
    · rw [hfree] at hc; cases hc
  rcases hx with hk | hk
  · refine wpAny_storeName_local hk hn (fun h' hn' hs => ?_) hcls
    obtain ⟨oL, _, _, hoL, _⟩ := id hn
    refine h _ ⟨I.ok, I.os, I.bare, ⟨fun b o e n hb hx => ?_, fun b o e n hb hx => ?_, I.base.free, fun b o e hx => ?_, I.base.tups, I.base.frzs, I.base.tbls⟩, ⟨_, hn', fun j y v' e1 e2 e3 => ?_⟩, fun y c e => ?_, I.free, I.freeC, fun p hp => ?_, tracked ⟨oL, hoL, I.free⟩ hs, by simpa using I.len⟩ ⟨_, hs, .inl rfl⟩
    · exact (hs.2 b (Nat.ne_of_lt (Nat.lt_of_lt_of_le (Heap.lt_size e) I.ok.above))).trans (I.base.keep b o e n hb hx)
    · obtain ⟨sl, e1⟩ := I.base.slot b o e n hb hx
      exact ⟨sl, (hs.2 b (Nat.ne_of_lt (Nat.lt_of_lt_of_le (Heap.lt_size e) I.ok.above))).trans e1⟩
    · obtain ⟨o', e1⟩ := I.base.there b o e hx
      exact ⟨o', (hs.2 b (Nat.ne_of_lt (Nat.lt_of_lt_of_le (Heap.lt_size e) I.ok.above))).trans e1⟩
    · by_cases hj : j = i
      · subst hj
        rw [hi] at e1; cases e1
        rw [List.getElem?_set_self hiσ] at e2
        cases e2
        exact ⟨u, r, .inl ⟨hk, by simp⟩⟩
      · rw [List.getElem?_set_ne (Ne.symm hj)] at e2
        obtain ⟨u', r', q⟩ := hl j y v' e1 e2 e3
        refine ⟨u', r', ?_⟩
        rcases q with ⟨k, e⟩ | ⟨k, c, e, z⟩
        · refine .inl ⟨k, ?_⟩
          have : y ≠ x := fun e => hj (nodup_ix hN e1 (e ▸ hi))
          simp [this, e]
        · exact .inr ⟨k, c, e, z.sameBut hs (cne y c e)⟩
    · obtain ⟨w', z⟩ := I.cell y c e
      exact ⟨w', z.sameBut hs (cne y c e)⟩
    · obtain ⟨e, n, ne, nf, d⟩ := I.pin p hp
      exact ⟨(hs.2 p.1 ne).trans e, n, ne, nf, d⟩
  · have hfn : X.fn x = true := by
      rcases hf with z | z
      · exact z
      · rw [z] at hk; cases hk
    obtain ⟨c, hc⟩ := I.ok.has x (.inl hk)
    obtain ⟨w', z⟩ := I.cell x c hc
    refine wpAny_storeName_cell I.ok.kind hk hc z (fun h' hc' hs => ?_)
    obtain ⟨oc, hoc, hocd⟩ := id z
    refine h { s with heap := h' } ⟨I.ok, I.os, I.bare, ⟨fun b o e n hb hx => ?_, fun b o e n hb hx => ?_, I.base.free, fun b o e hx => ?_, I.base.tups, I.base.frzs, I.base.tbls⟩, ⟨m, hn.sameBut hs (Ne.symm (cne x c hc)), fun j y v' e1 e2 e3 => ?_⟩, fun y c' e => ?_, I.free, I.freeC, fun p hp => ?_, tracked ⟨oc, hoc, I.freeC x c hc⟩ hs, by simpa using I.len⟩ ⟨c, hs, .inr hc⟩
    · exact (hs.2 b (Nat.ne_of_lt (Nat.lt_of_lt_of_le (Heap.lt_size e) (I.ok.cab x c hfn hc)))).trans (I.base.keep b o e n hb hx)
    · obtain ⟨sl, e1⟩ := I.base.slot b o e n hb hx
      exact ⟨sl, (hs.2 b (Nat.ne_of_lt (Nat.lt_of_lt_of_le (Heap.lt_size e) (I.ok.cab x c hfn hc)))).trans e1⟩
    · obtain ⟨o', e1⟩ := I.base.there b o e hx
      exact ⟨o', (hs.2 b (Nat.ne_of_lt (Nat.lt_of_lt_of_le (Heap.lt_size e) (I.ok.cab x c hfn hc)))).trans e1⟩
    · by_cases hj : j = i
      · subst hj
        rw [hi] at e1; cases e1
        rw [List.getElem?_set_self hiσ] at e2
        cases e2
        exact ⟨u, r, .inr ⟨.inl hk, c, hc, hc'⟩⟩
      · rw [List.getElem?_set_ne (Ne.symm hj)] at e2
        obtain ⟨u', r', q⟩ := hl j y v' e1 e2 e3
        refine ⟨u', r', ?_⟩
        rcases q with q | ⟨k, c', e, z'⟩
        · exact .inl q
        · refine .inr ⟨k, c', e, z'.sameBut hs ?_⟩
          rintro rfl
          exact hj (nodup_ix hN e1 (I.ok.inj _ _ _ e hc ▸ hi))
    · by_cases hcc : c' = c
      · subst hcc; exact ⟨_, hc'⟩
      · obtain ⟨w2, z2⟩ := I.cell y c' e
        exact ⟨w2, z2.sameBut hs hcc⟩
    · obtain ⟨e, n, ne, nf, d⟩ := I.pin p hp
      refine ⟨(hs.2 p.1 ?_).trans e, n, ne, nf, d⟩
      intro q
      rw [q, hoc] at e
      have q' : oc = p.2 := Option.some.inj e
      exact d w' (by rw [← q']; exact hocd)
theorem store_ok {M : Model} {A : Around} {E : Value → Shared → Prop} {i : Nat} {x : Str} {v : V} {u : Value} {Q : Unit → Shared → Prop} (I : Inv X pins σ H s) (hN : X.N.Nodup) (hi : X.N[i]? = some x) (hx : Loc X.env.scope x) (r : RelV v u)
    (h : ∀ s', Inv X pins (σ.set i (some v)) H s' → Q () s') (hf : X.fn x = true ∨ X.env.scope.names.lookup x = some .local := by first | exact .inl rfl | exact .inr rfl | assumption) : wpAny M A (storeName X.env x u) Q E s :=
  store_ok2 I hN hi hx r (fun s' I' _ => h s' I') hf
/-- behind a call or a block, the state as it is -/
theorem Inv.call' {s' : Shared} {ch : List Addr} (I : Inv X pins σ H s) (ho : s'.os = s.os) (u : Un (frs X.stack) ch H H' s.heap s'.heap) (hok : HOk X.prog X.w H' s'.heap) (hg : AllBare s'.gens)
    (hch : ∀ b ∈ ch, (b ∈ X.ex ∨ X.s₀.heap.objs.size ≤ b) ∧ b ≠ X.env.locals ∧ (∀ x c, X.env.cells.lookup x = some c → c ≠ b) ∧ ∀ p ∈ X.pn ++ pins, p.1 ≠ b) : Inv X pins σ H' s' := by
  obtain ⟨h', g', d', t', o'⟩ := s'
  have e : o' = s.os := ho
  subst e
  exact I.call (g' := g') (t' := t') (d' := d') u hok hg hch
end

/-! ### the judgements -/
/-- an exception: its class, its own dict's address (where it has one), the abstract heap behind it -/
abbrev XK := Value → Option Addr → Hp → Prop
abbrev St := List (Option V)
abbrev VK := V → Hp → Prop
/-- an expression's reading; a test's; an argument list's -/
abbrev TE := St → Hp → VK → Prop
abbrev TT := St → Hp → (Bool → Hp → Prop) → Prop
abbrev TA := St → Hp → (List V → Hp → Prop) → Prop
/-- what is wanted behind a statement -/
structure Ends where
  nx : St → Hp → Prop
  rt : VK
  bk : St → Hp → Prop := fun _ _ => False
  ct : St → Hp → Prop := fun _ _ => False
abbrev TS := Ends → St → Hp → Prop

def EP (X : Cx) (pins : List (Addr × Obj)) (σ : St) (Q : VK) (u : Value) (s' : Shared) : Prop := ∃ v H', Inv X pins σ H' s' ∧ RelV v u ∧ Q v H'
def TP (X : Cx) (pins : List (Addr × Obj)) (σ : St) (Q : Bool → Hp → Prop) (b : Bool) (s' : Shared) : Prop := ∃ H', Inv X pins σ H' s' ∧ Q b H'
def AP (X : Cx) (pins : List (Addr × Obj)) (σ : St) (Q : List V → Hp → Prop) (us : List Value) (s' : Shared) : Prop := ∃ vs H', Inv X pins σ H' s' ∧ Vals vs us ∧ Q vs H'
def SP (X : Cx) (pins : List (Addr × Obj)) (D : Ends) (f : Flow) (s' : Shared) : Prop :=
  match f with
  | .next => ∃ σ' H', Inv X pins σ' H' s' ∧ D.nx σ' H'
  | .brk => ∃ σ' H', Inv X pins σ' H' s' ∧ D.bk σ' H'
  | .cont => ∃ σ' H', Inv X pins σ' H' s' ∧ D.ct σ' H'
  | .ret u => ∃ v σ' H', Inv X pins σ' H' s' ∧ RelV v u ∧ D.rt v H'

def PE (X : Cx) (e : Expr) (t : TE) : Prop :=
  ∀ (pins : List (Addr × Obj)) (s : Shared) (σ : St) (H : Hp) (Q : VK), Inv X pins σ H s → t σ H Q → wpAny (model X.prog X.w) X.A (eval e X.env) (EP X pins σ Q) X.xe s
def PT (X : Cx) (e : Expr) (t : TT) : Prop :=
  ∀ (pins : List (Addr × Obj)) (s : Shared) (σ : St) (H : Hp) (Q : Bool → Hp → Prop), Inv X pins σ H s → t σ H Q → wpAny (model X.prog X.w) X.A (isTrue e X.env (eval e X.env)) (TP X pins σ Q) X.xe s
/-- a test whatever its 'whole' is (and, or) -/
def PW (X : Cx) (e : Expr) (t : TT) : Prop :=
  ∀ (whole : Sem Value) (pins : List (Addr × Obj)) (s : Shared) (σ : St) (H : Hp) (Q : Bool → Hp → Prop), Inv X pins σ H s → t σ H Q → wpAny (model X.prog X.w) X.A (isTrue e X.env whole) (TP X pins σ Q) X.xe s
theorem PW.pt {X : Cx} {e : Expr} {t : TT} (h : PW X e t) : PT X e t := h _
/-- an argument list (no star), from the left -/
def PA (X : Cx) (es : List Expr) (t : TA) : Prop :=
  ∀ (pos : Pos) (pins : List (Addr × Obj)) (s : Shared) (σ : St) (H : Hp) (Q : List V → Hp → Prop), Inv X pins σ H s → t σ H Q → wpAny (model X.prog X.w) X.A (spliced (backTo pos (starEach es X.env))) (AP X pins σ Q) X.xe s
def PS (X : Cx) (st : Stmt) (t : TS) : Prop :=
  ∀ (pins : List (Addr × Obj)) (s : Shared) (σ : St) (H : Hp) (D : Ends), Inv X pins σ H s → t D σ H → wpAny (model X.prog X.w) X.A (exec st X.env) (SP X pins D) X.xe s
def PSs (X : Cx) (st : List Stmt) (t : TS) : Prop :=
  ∀ (pins : List (Addr × Obj)) (s : Shared) (σ : St) (H : Hp) (D : Ends), Inv X pins σ H s → t D σ H → wpAny (model X.prog X.w) X.A (execs st X.env) (SP X pins D) X.xe s
/-- weaken the end -/
theorem thn {α : Type} {t : Sem α} {Q Q' : α → Shared → Prop} {M : Model} {A : Around} {E : Value → Shared → Prop} {s : Shared} (h : wpAny M A t Q E s) (hQ : ∀ a s, Q a s → Q' a s) : wpAny M A t Q' E s := wpAny_mono h hQ fun _ _ x => x
end L2

namespace L2
open PySem PySem.Spec PyProof.Rows
section
variable {X : Cx}


/-! ### names and constants -/
def tVar (i : Nat) : TE := fun σ H Q => ∃ v, σ[i]? = some (some v) ∧ Q v H
def tC (v : V) : TE := fun _ H Q => Q v H
theorem pe_var {i : Nat} {x : Str} {pos : Pos} (hN : X.N[i]? = some x) (hv : Vis X.env.scope x) (hd : (x == ("__debug__" : Str)) = false := by decide) (hcd : (x == ("__classdict__" : Str)) = false := by decide) : PE X (.Name x pos) (tVar i) := by
  intro pins s σ H Q I h
  obtain ⟨v, e, h⟩ := h
  obtain ⟨m, hn, hl⟩ := I.loc
  obtain ⟨u, r, l⟩ := hl i x v hN e hv
  have fin : EP X pins σ Q u s := ⟨v, H, I, r, h⟩
  rcases l with ⟨hk, hm⟩ | ⟨hk, c, hc, hcell⟩
  · exact wpAny_Name (wpAny_loadName_local I.ok.kind hk hn hm fin) hd
  · rcases hk with hk | hk
    · exact wpAny_Name (wpAny_loadName_cell I.ok.kind hk hc hcell fin) hd
    · exact wpAny_Name (wpAny_loadName_free I.ok.kind hk hc hcell fin hcd) hd
theorem pe_int {i j pos} : PE X (.Constant (.int i) j pos) (tC (.int i)) := fun _ _ _ H _ I h => wpAny_Constant_int ⟨.int i, H, I.tok _, ⟨_, rfl⟩, h⟩
theorem pe_bl {b j pos} : PE X (.Constant (.bool b) j pos) (tC (.bl b)) := fun _ _ _ H _ I h => Constant_bool ⟨.bl b, H, I, rfl, h⟩

/-- a global name of the def -/
def Gl (X : Cx) (x : Str) : Prop := X.env.kindOf x = some .globalImplicit
theorem ld_glob {E : Value → Shared → Prop} {pins : List (Addr × Obj)} {s : Shared} {σ : St} {H : Hp} {x : Str} {u : Value} {pos : Pos} {Q : Value → Shared → Prop} (I : Inv X pins σ H s) (hg : Gl X x) (hm : X.mg x = some u) (h : Q u s)
    (hd : (x == ("__debug__" : Str)) = false := by decide) : wpAny (model X.prog X.w) X.A (eval (.Name x pos) X.env) Q E s :=
  Calls.Name_function_global I.ok.kind hg (Calls.loadGlobal_global (by rw [I.ok.glob]; exact I.mod.glob.keeps I.bk) hm h) hd
theorem ld_blt {E : Value → Shared → Prop} {pins : List (Addr × Obj)} {s : Shared} {σ : St} {H : Hp} {x : Str} {u : Value} {pos : Pos} {Q : Value → Shared → Prop} (I : Inv X pins σ H s) (hg : Gl X x) (hm : X.mg x = none) (hv : bootBuiltins x = some u) (h : Q u s)
    (hn : x ≠ "__name__" := by decide) (hd : (x == ("__debug__" : Str)) = false := by decide) : wpAny (model X.prog X.w) X.A (eval (.Name x pos) X.env) Q E s := by
  obtain ⟨mb, h1, h2⟩ := I.mod.blt
  exact Calls.Name_function_global I.ok.kind hg (Calls.loadGlobal_builtin (by rw [I.ok.glob]; exact I.mod.glob.keeps I.bk) hm (by rw [I.ok.blt]; exact h1.keeps I.bk) ((h2 x hn).trans hv) h) hd
/-- a module's constant, a class, a function, as a value -/
theorem pe_glob {x : Str} {v : V} {u : Value} {pos : Pos} (hg : Gl X x) (hm : X.mg x = some u) (r : RelV v u) (hd : (x == ("__debug__" : Str)) = false := by decide) : PE X (.Name x pos) (tC v) :=
  fun _ _ _ H _ I h => ld_glob I hg hm ⟨v, H, I, r, h⟩ hd

/-! ### arithmetic -/
variable {a b : Expr} {ta tb : TE} {pos : Pos}

/-! ### comparisons -/
def PC (X : Cx) (op : CmpOp) (a b : Expr) (t : TE) : Prop :=
  ∀ (pins : List (Addr × Obj)) (s : Shared) (σ : St) (H : Hp) (Q : VK), Inv X pins σ H s → t σ H Q →
    wpAny (model X.prog X.w) X.A (eval a X.env) (fun v s₁ => wpAny (model X.prog X.w) X.A (eval b X.env) (fun u s₂ => wpAny (model X.prog X.w) X.A (compareOp op v u) (EP X pins σ Q) X.xe s₂) X.xe s₁) X.xe s
/-- a comparison as a value, as a test -/
def tB (t : TE) : TT := fun σ H Q => t σ H fun x H1 => ∃ c, x = .bl c ∧ Q c H1
theorem pt_cmp {op : CmpOp} {t : TE} (h : PC X op a b t) (h1 : behindInMarks op b = false := by first | exact nobehind _ (by decide) (by decide) | rfl) : PT X (.Compare a [op] [b] pos) (tB t) := by
  intro pins s σ H Q I hw
  refine wpAny_isTrue_Compare1 (thn (h pins s σ H _ I hw) fun v s1 h1 => thn h1 fun u s2 h2 => thn h2 fun c s3 ⟨x, H1, I1, r1, q1⟩ => ?_) h1
  obtain ⟨d, rfl, q⟩ := q1
  cases r1
  exact wpAny_truthy_bool ⟨H1, I1, q⟩
/-- an expression whose value is a bool, as a test -/
theorem pt_val {e : Expr} {t : TE} (h : PE X e t) (he : ∀ whole, isTrue e X.env whole = (do let v ← whole; standAt e.pos; holding [v] (truthy v)) := by intro _; rfl) : PT X e (tB t) := by
  intro pins s σ H Q I hw
  refine isTrue_plain (thn (h pins s σ H _ I hw) fun v s1 ⟨x, H1, I1, r1, q1⟩ => ?_) (he _)
  obtain ⟨d, rfl, q⟩ := q1
  cases r1
  exact wpAny_truthy_bool ⟨H1, I1, q⟩

/-! ### and, or, not -/
variable {tA tB' : TT} {rest : List Expr}
def tAnd (t u : TT) : TT := fun σ H Q => t σ H fun c H1 => if c = true then u σ H1 Q else Q false H1
def tOr (t u : TT) : TT := fun σ H Q => t σ H fun c H1 => if c = true then Q true H1 else u σ H1 Q
def tNot (t : TT) : TT := fun σ H Q => t σ H fun c H1 => Q (!c) H1
theorem pw_and1 (ha : PT X a tA) : PW X (.BoolOp .And [a] pos) tA := by
  intro wh pins s σ H Q I h
  refine isTrue_and (thn (ha pins s σ H Q I h) fun c s1 e => ?_)
  cases c with
  | true => exact isTrue_and_nil e
  | false => exact e
theorem pw_or1 (ha : PT X a tA) : PW X (.BoolOp .Or [a] pos) tA := by
  intro wh pins s σ H Q I h
  refine isTrue_or (thn (ha pins s σ H Q I h) fun c s1 e => ?_)
  cases c with
  | false => exact isTrue_or_nil e
  | true => exact e
theorem pw_and (ha : PT X a tA) (hb : PW X (.BoolOp .And (b :: rest) pos) tB') : PW X (.BoolOp .And (a :: b :: rest) pos) (tAnd tA tB') := by
  intro wh pins s σ H Q I h
  refine isTrue_and (thn (ha pins s σ H _ I h) fun c s1 ⟨H1, I1, q1⟩ => ?_)
  cases c with
  | true => exact hb wh pins s1 σ H1 Q I1 q1
  | false => exact ⟨H1, I1, q1⟩
theorem pw_or (ha : PT X a tA) (hb : PW X (.BoolOp .Or (b :: rest) pos) tB') : PW X (.BoolOp .Or (a :: b :: rest) pos) (tOr tA tB') := by
  intro wh pins s σ H Q I h
  refine isTrue_or (thn (ha pins s σ H _ I h) fun c s1 ⟨H1, I1, q1⟩ => ?_)
  cases c with
  | true => exact ⟨H1, I1, q1⟩
  | false => exact hb wh pins s1 σ H1 Q I1 q1
theorem pt_not (ha : PT X a tA) : PT X (.UnaryOp .Not a pos) (tNot tA) := by
  intro pins s σ H Q I h
  exact isTrue_not (ha pins s σ H (fun c H1 => Q (!c) H1) I h)
/-- .. as values (bools) -/
def tAndV (ta tb : TE) : TE := fun σ H Q => ta σ H fun x H1 => ∃ c, x = .bl c ∧ if c = true then tb σ H1 Q else Q (.bl false) H1
def tOrV (ta tb : TE) : TE := fun σ H Q => ta σ H fun x H1 => ∃ c, x = .bl c ∧ if c = true then Q (.bl true) H1 else tb σ H1 Q
theorem pe_one {op} {t : TE} (h : PE X a t) : PE X (.BoolOp op [a] pos) t := fun pins s σ H Q I hw => BoolOp_one (h pins s σ H Q I hw)
theorem pe_and (ha : PE X a ta) (hb : PE X (.BoolOp .And (b :: rest) pos) tb) : PE X (.BoolOp .And (a :: b :: rest) pos) (tAndV ta tb) := by
  intro pins s σ H Q I h
  refine BoolOp_and (thn (ha pins s σ H _ I h) fun v s1 ⟨x, H1, I1, r1, q1⟩ => ?_)
  obtain ⟨c, rfl, q1⟩ := q1
  cases r1
  refine wpAny_truthy_bool ?_
  cases c with
  | true => exact hb pins s1 σ H1 Q I1 q1
  | false => exact ⟨.bl false, H1, I1, rfl, q1⟩
theorem pe_or (ha : PE X a ta) (hb : PE X (.BoolOp .Or (b :: rest) pos) tb) : PE X (.BoolOp .Or (a :: b :: rest) pos) (tOrV ta tb) := by
  intro pins s σ H Q I h
  refine BoolOp_or (thn (ha pins s σ H _ I h) fun v s1 ⟨x, H1, I1, r1, q1⟩ => ?_)
  obtain ⟨c, rfl, q1⟩ := q1
  cases r1
  refine wpAny_truthy_bool ?_
  cases c with
  | false => exact hb pins s1 σ H1 Q I1 q1
  | true => exact ⟨.bl true, H1, I1, rfl, q1⟩
end
end L2

namespace L2
open PySem PySem.Spec PyProof.Rows

/-! ### a list, a tuple that is read: tracked, frozen, or an object of the module -/
def SqL (K : PySem.W.Frag) (H : Hp) (a : Addr) (xs : List V) : Prop :=
  Rd H a (.lst xs) ∨
    ∃ (o : Obj) (its : Array Value) (n : Nat), K.lookup a = some o ∧ o.cls = .type "list" ∧ o.dict = none ∧ o.data = .seq its n ∧ its.size ≤ sizeLine ∧ Vals xs its.toList
def SqT (K : PySem.W.Frag) (H : Hp) (a : Addr) (xs : List V) : Prop :=
  Rd H a (.tup xs) ∨
    ∃ (o : Obj) (its : Array Value) (n : Nat), K.lookup a = some o ∧ o.cls = .type "tuple" ∧ o.data = .seq its n ∧ its.size ≤ sizeLine ∧ Vals xs its.toList
def absV : Value → Option V
  | .none => some .non
  | .bool b => some (.bl b)
  | .int i _ => some (.int i)
  | .str x _ => some (.str x)
  | .bytes b _ => some (.byt b)
  | .float b _ => some (.flt b)
  | .ref a => some (.ref a)
  | .type n => some (.ty n)
  | _ => none
theorem RelV.abs {x : V} {u : Value} (r : RelV x u) : absV u = some x := by
  cases x with
  | non => cases r; rfl
  | bl _ => cases r; rfl
  | int _ => obtain ⟨t, rfl⟩ := r; rfl
  | str _ => obtain ⟨t, rfl⟩ := r; rfl
  | byt _ => obtain ⟨t, rfl⟩ := r; rfl
  | flt _ => obtain ⟨t, rfl⟩ := r; rfl
  | ref _ => cases r; rfl
  | ty _ => cases r; rfl
theorem RelV.inj {x y : V} {u : Value} (r : RelV x u) (q : RelV y u) : x = y := Option.some.inj (r.abs.symm.trans q.abs)
theorem Vals.inj : ∀ {xs ys : List V} {us : List Value}, Vals xs us → Vals ys us → xs = ys
  | _, _, _, .nil, .nil => rfl
  | _, _, _, .cons r t, .cons r' t' => by rw [r.inj r', Vals.inj t t']
section
variable {X : Cx} {pins : List (Addr × Obj)} {σ : St} {H : Hp} {s : Shared} {a : Addr} {xs ys : List V}
theorem SqL.of {K : PySem.W.Frag} (h : H a = some (.lst xs)) : SqL K H a xs := .inl (.inl h)
theorem SqT.of {K : PySem.W.Frag} (h : H a = some (.tup xs)) : SqT K H a xs := .inl (.inl h)
theorem Inv.list (I : Inv X pins σ H s) (h : SqL X.K H a xs) : ∃ its : List Value, Vals xs its ∧ PlainL s.heap a its.toArray ∧ xs.length ≤ sizeLine := by
  rcases h with h | ⟨o, its, n, hk, hc, hd, hs, hz, r⟩
  · obtain ⟨z, its, n, r, e⟩ := h.ok I.hok
    exact ⟨its, r, ⟨_, n, e, rfl, rfl, rfl⟩, z⟩
  · refine ⟨its.toList, r, ⟨o, n, I.kIn a o hk, hc, hd, by simpa using hs⟩, ?_⟩
    have e := r.length
    simp only [Array.length_toList] at e
    omega
theorem Inv.tuple (I : Inv X pins σ H s) (h : SqT X.K H a xs) : ∃ its : List Value, Vals xs its ∧ IsTup s.heap a its.toArray ∧ xs.length ≤ sizeLine := by
  rcases h with h | ⟨o, its, n, hk, hc, hs, hz, r⟩
  · obtain ⟨z, its, r, p⟩ := h.ok I.hok
    exact ⟨its, r, p, z⟩
  · refine ⟨its.toList, r, ⟨o, I.kIn a o hk, hc, n, by simpa using hs⟩, ?_⟩
    have e := r.length
    simp only [Array.length_toList] at e
    omega
theorem Inv.list_inj (I : Inv X pins σ H s) (h : SqL X.K H a xs) (h' : SqL X.K H a ys) : xs = ys := by
  obtain ⟨its, r, ⟨o, n, e, _, _, d⟩, _⟩ := I.list h
  obtain ⟨its', r', ⟨o', n', e', _, _, d'⟩, _⟩ := I.list h'
  rw [e] at e'; cases e'
  rw [d] at d'
  injection d' with d1 _
  have : its = its' := by simpa using congrArg Array.toList d1
  subst this
  exact r.inj r'
end

/-! ### another wish about exceptions -/
abbrev Cx.wish (X : Cx) (E : Value → Shared → Prop) : Cx := { X with xe := E }
/-- no exception leaves -/
abbrev Cx.nox (X : Cx) : Cx := X.wish fun _ _ => False
theorem Cx.Ok.wish {X : Cx} (ok : X.Ok) (E : Value → Shared → Prop) : (X.wish E).Ok :=
  ⟨ok.mod, ok.kind, ok.glob, ok.blt, ok.above, ok.inj, ok.has, ok.cab, ok.hd, ok.frames, ok.stk, ok.exf, ok.bs, ok.bsz, ok.noex, ok.exfs, ok.funs, ok.frf⟩
theorem Cx.Ok.unwish {X : Cx} {E : Value → Shared → Prop} (ok : (X.wish E).Ok) : X.Ok :=
  ⟨ok.mod, ok.kind, ok.glob, ok.blt, ok.above, ok.inj, ok.has, ok.cab, ok.hd, ok.frames, ok.stk, ok.exf, ok.bs, ok.bsz, ok.noex, ok.exfs, ok.funs, ok.frf⟩
section
variable {X : Cx} {pins : List (Addr × Obj)} {σ : St} {H : Hp} {s : Shared} {E : Value → Shared → Prop}
theorem Inv.wish (I : Inv X pins σ H s) (E : Value → Shared → Prop) : Inv (X.wish E) pins σ H s := ⟨I.ok.wish E, I.os, I.bare, I.base, I.loc, I.cell, I.free, I.freeC, I.pin, I.hok, I.len⟩
theorem Inv.unwish (I : Inv (X.wish E) pins σ H s) : Inv X pins σ H s := ⟨I.ok.unwish, I.os, I.bare, I.base, I.loc, I.cell, I.free, I.freeC, I.pin, I.hok, I.len⟩
theorem SP.unwish {D : Ends} {f : Flow} {s' : Shared} (h : SP (X.wish E) pins D f s') : SP X pins D f s' := by
  cases f with
  | next => obtain ⟨σ', H', I, q⟩ := h; exact ⟨σ', H', I.unwish, q⟩
  | brk => obtain ⟨σ', H', I, q⟩ := h; exact ⟨σ', H', I.unwish, q⟩
  | cont => obtain ⟨σ', H', I, q⟩ := h; exact ⟨σ', H', I.unwish, q⟩
  | ret u => obtain ⟨v, σ', H', I, r, q⟩ := h; exact ⟨v, σ', H', I.unwish, r, q⟩
theorem PSs.nox {st : List Stmt} {t : TS} (h : PSs X.nox st t) : PSs X st t := fun pins s σ H D I hw =>
  wpAny_mono (h pins s σ H D (I.wish _) hw) (fun _ _ q => q.unwish) fun _ _ z => False.elim z
end

/-! ### blocks and small statements -/
section
variable {X : Cx} {st : Stmt} {rest : List Stmt} {t u : TS} {e : Expr} {te : TE} {pos : Pos}
def tNext : TS := fun D σ H => D.nx σ H
def tSeq (t u : TS) : TS := fun D σ H => t { D with nx := u D } σ H
theorem pss_nil : PSs X [] tNext := fun _ _ σ H _ I h => wpAny_execs_nil ⟨σ, H, I, h⟩
theorem pss_cons (h1 : PS X st t) (h2 : PSs X rest u) : PSs X (st :: rest) (tSeq t u) := by
  intro pins s σ H D I h
  refine wpAny_execs_cons (thn (h1 pins s σ H { D with nx := u D } I h) fun f s1 q => ?_)
  cases f with
  | next =>
    obtain ⟨σ', H', I', q⟩ := q
    exact h2 pins s1 σ' H' D I' q
  | ret v => exact q
  | brk => exact q
  | cont => exact q
theorem pss_one (h1 : PS X st t) : PSs X [st] t := by
  intro pins s σ H D I h
  refine wpAny_execs_cons (thn (h1 pins s σ H D I h) fun f s1 q => ?_)
  cases f with
  | next => exact wpAny_execs_nil q
  | ret v => exact q
  | brk => exact q
  | cont => exact q
/-- in a def's body nothing is shown -/
theorem Inv.quiet {pins : List (Addr × Obj)} {σ : St} {H : Hp} {s : Shared} (I : Inv X pins σ H s) : interactive X.env = false := by simp [interactive, I.ok.kind]
/-- an expression whose value is dropped -/
def tDrop (te : TE) : TS := fun D σ H => te σ H fun _ H1 => D.nx σ H1
theorem ps_expr (he : PE X e te) (hs : swapsWith e none pos.line X.env = pure false := by rfl) : PS X (.Expr e pos) (tDrop te) := by
  intro pins s σ H D I h
  exact wpAny_Expr_any (thn (he pins s σ H _ I h) fun v s1 ⟨x, H1, I1, r1, q1⟩ => ⟨σ, H1, I1, q1⟩) I.quiet hs
def tRet (te : TE) : TS := fun D σ H => te σ H D.rt
theorem ps_ret (he : PE X e te) : PS X (.Return (some e) pos) (tRet te) := by
  intro pins s σ H D I h
  exact wpAny_Return_some (thn (he pins s σ H _ I h) fun v s1 ⟨x, H1, I1, r1, q1⟩ => ⟨x, σ, H1, I1, r1, q1⟩)
def tIfS (c : TT) (t u : TS) : TS := fun D σ H => c σ H fun b H1 => if b = true then t D σ H1 else u D σ H1
theorem ps_if {c : Expr} {a b : List Stmt} {tc : TT} (hc : PT X c tc) (ha : PSs X a t) (hb : PSs X b u) : PS X (.If c a b pos) (tIfS tc t u) := by
  intro pins s σ H D I h
  refine wpAny_If (thn (hc pins s σ H _ I h) fun d s1 ⟨H1, I1, q1⟩ => ?_)
  cases d with
  | true => exact ha pins s1 σ H1 D I1 q1
  | false => exact hb pins s1 σ H1 D I1 q1
end

/-! ### targets -/
abbrev TG := V → St → Hp → (St → Hp → Prop) → Prop
abbrev TGs := List V → St → Hp → (St → Hp → Prop) → Prop
def PG (X : Cx) (target : Expr) (t : TG) : Prop :=
  ∀ (pins : List (Addr × Obj)) (s : Shared) (σ : St) (H : Hp) (v : V) (u : Value) (Q : St → Hp → Prop), Inv X pins σ H s → RelV v u → t v σ H Q →
    wpAny (model X.prog X.w) X.A (assign target X.env u) (fun _ s' => ∃ σ' H', Inv X pins σ' H' s' ∧ Q σ' H') X.xe s
/-- several targets, one after another -/
def PGs (X : Cx) (ts : List Expr) (t : TGs) : Prop :=
  ∀ (pins : List (Addr × Obj)) (s : Shared) (σ : St) (H : Hp) (vs : List V) (us : List Value) (Q : St → Hp → Prop), Inv X pins σ H s → Vals vs us → t vs σ H Q →
    wpAny (model X.prog X.w) X.A (assignInOrder ((assignEach ts X.env).map (·.2)) us) (fun _ s' => ∃ σ' H', Inv X pins σ' H' s' ∧ Q σ' H') X.xe s
section
variable {X : Cx} {pos : Pos}
def gName (i : Nat) : TG := fun v σ H Q => Q (σ.set i (some v)) H
theorem pg_name {i : Nat} {x : Str} (hN : X.N.Nodup) (hi : X.N[i]? = some x) (hx : Loc X.env.scope x) (hf : X.fn x = true ∨ X.env.scope.names.lookup x = some .local := by first | exact .inl rfl | exact .inr rfl | assumption) : PG X (.Name x pos) (gName i) := by
  intro pins s σ H v u Q I r h
  exact wpAny_assign_Name (store_ok I hN hi hx r (fun s' I' => ⟨_, H, I', h⟩) hf)
def gNil : TGs := fun vs σ H Q => vs = [] ∧ Q σ H
def gCons (t : TG) (u : TGs) : TGs := fun vs σ H Q => ∃ v r, vs = v :: r ∧ t v σ H fun σ' H' => u r σ' H' Q
theorem pgs_nil : PGs X [] gNil := by
  intro pins s σ H vs us Q I r h
  obtain ⟨e, h⟩ := h
  subst e
  cases r
  exact assignInOrder_nil ⟨σ, H, I, h⟩
theorem pgs_cons {e : Expr} {es : List Expr} {t : TG} {u : TGs} (h1 : PG X e t) (h2 : PGs X es u)
    (hs : (assignEach (e :: es) X.env).map (·.2) = assign e X.env :: (assignEach es X.env).map (·.2) := by rfl) : PGs X (e :: es) (gCons t u) := by
  intro pins s σ H vs us Q I r h
  obtain ⟨v, vr, e1, h⟩ := h
  subst e1
  cases r with
  | cons r rr =>
    rw [hs]
    refine assignInOrder_cons (thn (h1 pins s σ H _ _ _ I r h) fun _ s1 ⟨σ1, H1, I1, q1⟩ => ?_)
    exact h2 pins s1 σ1 H1 _ _ Q I1 rr q1
/-- (a, b, ..) = a tuple of that length -/
def gTup (K : PySem.W.Frag) (n : Nat) (t : TGs) : TG := fun v σ H Q => ∃ a xs, v = .ref a ∧ SqT K H a xs ∧ xs.length = n ∧ t xs σ H Q
theorem pg_tup {es : List Expr} {k : Nat} {t : TGs} {n : Nat} (hc : X.calm = true) (h : PGs X es t)
    (hn : (assignEach es X.env).length = n := by rfl) (hst : (assignEach es X.env).findIdx? (·.1) = none := by rfl) : PG X (.Tuple es k pos) (gTup X.K n t) := by
  intro pins s σ H v u Q I r hw
  obtain ⟨a, xs, e1, hq, hl, hw⟩ := hw
  subst e1
  cases r
  obtain ⟨its, rv, ht, hz⟩ := I.tuple hq
  refine assign_Tuple_tuple (I.ok.hd hc) ht (by simp [hn, ← hl, rv.length]) hst fun h' hx => ?_
  have I1 : Inv X pins σ H { s with heap := h' } := I.kept (t' := s.toks) fun b o e => hx b o (Nat.ne_of_lt (Heap.lt_size e)) e
  exact h pins _ σ H xs _ Q I1 (by simpa using rv) hw
/-- target = value -/
def tAsg (te : TE) (g : TG) : TS := fun D σ H => te σ H fun x H1 => g x σ H1 D.nx
/-- name = value -/
theorem ps_set {i : Nat} {x : Str} {e : Expr} {te : TE} {pos' : Pos} (hN : X.N.Nodup) (hi : X.N[i]? = some x) (hx : Loc X.env.scope x) (he : PE X e te) (hs : swapsWith e (some (.Name x pos')) pos.line X.env = pure false := by rfl) (hf : X.fn x = true ∨ X.env.scope.names.lookup x = some .local := by first | exact .inl rfl | exact .inr rfl | assumption) :
    PS X (.Assign [.Name x pos'] e pos) (tAsg te (gName i)) := by
  intro pins s σ H D I h
  refine wpAny_Assign_Name (thn (he pins s σ H _ I h) fun v s1 ⟨y, H1, I1, r1, q1⟩ => ?_) hs
  exact store_ok I1 hN hi hx r1 (fun s2 I2 => ⟨_, H1, I2, q1⟩) hf
end

/-! ### while -/
section
variable {X : Cx} {pos : Pos}
/-- the invariant W with its measure -/
def tWhile (c : TT) (tb : TS) : TS := fun D σ H => ∃ W : Nat → St → Hp → Prop, (∃ m, W m σ H) ∧ ∀ m σ H, W m σ H →
  c σ H fun b H1 => if b = true then ∃ N : St → Hp → Prop, (∀ σ' H', N σ' H' → ∃ m', m' < m ∧ W m' σ' H') ∧ tb { D with nx := N, ct := N, bk := D.nx } σ H1 else D.nx σ H1
theorem ps_while {c : Expr} {body : List Stmt} {tc : TT} {tb : TS} (hp : PassesOwn (model X.prog X.w) X.A X.env X.xe) (hc : PT X c tc) (hb : PSs X body tb) : PS X (.While c body [] pos) (tWhile tc tb) := by
  intro pins s σ H D I h
  obtain ⟨W, ⟨m0, w0⟩, turn⟩ := h
  refine wpAny_While (codeAny_whileLoop (fun n s' => ∃ σ' H', Inv X pins σ' H' s' ∧ W n σ' H') ?_ m0 ⟨σ, H, I, w0⟩)
  rintro n s1 ⟨σ1, H1, I1, w1⟩
  refine wpAny_passesOwn hp (thn (hc pins s1 σ1 H1 _ I1 (turn n σ1 H1 w1)) fun b s2 ⟨H2, I2, q2⟩ => ?_)
  cases b with
  | true =>
    obtain ⟨N, hN, q2⟩ := q2
    rw [if_pos rfl]
    refine wpAny_passesOwn hp (thn (hb pins s2 σ1 H2 _ I2 q2) fun f s3 q3 => ?_)
    cases f with
    | next =>
      obtain ⟨σ3, H3, I3, n3⟩ := q3
      obtain ⟨m', hm, w3⟩ := hN σ3 H3 n3
      exact ⟨m', hm, σ3, H3, I3, w3⟩
    | cont =>
      obtain ⟨σ3, H3, I3, n3⟩ := q3
      obtain ⟨m', hm, w3⟩ := hN σ3 H3 n3
      exact ⟨m', hm, σ3, H3, I3, w3⟩
    | brk => exact q3
    | ret v => exact q3
  | false =>
    rw [if_neg Bool.false_ne_true]
    exact wpAny_execs_nil ⟨σ1, H2, I2, q2⟩
end

/-! ### what a loop or a comprehension walks -/
/-- at turn i: it yields x (the heap may grow), or it stops -/
structure It where
  go : Nat → Hp → Prop
  yld : Nat → Hp → V → Hp → Prop
  stop : Nat → Hp → Prop
/-- the iterator's own objects may turn: they are not the frame's, not pinned, younger than the entry (or a comprehension's own) -/
def FpOk (X : Cx) (pins : List (Addr × Obj)) (H : Hp) (b : Addr) : Prop :=
  H b = none ∧ b ≠ X.env.locals ∧ b ∉ X.fs ∧ (b ∈ X.ex ∨ X.s₀.heap.objs.size ≤ b) ∧ (∀ x c, X.env.cells.lookup x = some c → c ≠ b) ∧ ∀ p ∈ X.pn ++ pins, p.1 ≠ b
theorem Inv.fpOk {X : Cx} {pins : List (Addr × Obj)} {σ : St} {H H' : Hp} {s : Shared} {b : Addr} (I : Inv X pins σ H s) (hb : s.heap.objs.size ≤ b) (hn : H' b = none) : FpOk X pins H' b := by
  refine ⟨hn, Nat.ne_of_gt (Nat.lt_of_lt_of_le I.lt hb), I.nofs hb, .inr (Nat.le_trans I.sz hb), fun x c e z => ?_, fun p hp z => ?_⟩
  · obtain ⟨v, q⟩ := I.cell x c e
    exact absurd (Nat.lt_of_lt_of_le q.lt (by rw [z]; exact hb)) (Nat.lt_irrefl _)
  · exact absurd (Nat.lt_of_lt_of_le (Heap.lt_size (I.pin p hp).1) (by rw [z]; exact hb)) (Nat.lt_irrefl _)
structure Turn (P : Program) (w : World) (K : PySem.W.Frag) (tg : Expr) (J : It) (fp : List Addr) (it : Addr) (tn : Nat → Heap → Prop) : Prop where
  mem : it ∈ fp
  obj : ∀ i h, tn i h → ∀ b ∈ fp, ∃ o, h.get? b = some o ∧ ∀ v, o.data ≠ .cell v
  keep : ∀ i h h', tn i h → (∀ b ∈ fp, ∀ o, h.get? b = some o → h'.get? b = some o) → tn i h'
  item : ∀ (X : Cx), X.prog = P → X.w = w → X.K = K → X.calm = true → ∀ (i : Nat) (pins : List (Addr × Obj)) (s : Shared) (σ : St) (H : Hp) (E : Value → Shared → Prop), Inv X pins σ H s → (∀ b ∈ fp, FpOk X pins H b) → tn i s.heap → J.go i H →
    wpAny (model P w) X.A (pyNext (.ref it)) (fun r s1 => ∃ u, r = some u ∧
      wpAny (model P w) X.A (letOwnedTupleGo tg (.ref it) u) (fun _ s2 => ∃ x H', Inv X pins σ H' s2 ∧ RelV x u ∧ J.yld i H x H' ∧ tn (i + 1) s2.heap ∧ ∀ b ∈ fp, H' b = none) E s1) E s
  done : ∀ (X : Cx), X.prog = P → X.w = w → X.K = K → X.calm = true → ∀ (i : Nat) (pins : List (Addr × Obj)) (s : Shared) (σ : St) (H : Hp) (E : Value → Shared → Prop), Inv X pins σ H s → (∀ b ∈ fp, FpOk X pins H b) → tn i s.heap → J.stop i H →
    wpAny (model P w) X.A (pyNext (.ref it)) (fun r s1 => r = none ∧ Inv X pins σ H s1) E s
  self : ∀ (A : Around) (i : Nat) (s : Shared) (Q : Value → Shared → Prop) (E : Value → Shared → Prop), tn i s.heap → Q (.ref it) s → wpAny (model P w) A (pyIter (.ref it)) Q E s
abbrev TI := St → Hp → (It → Hp → Prop) → Prop
/-- an iterator has come -/
def PIE (X : Cx) (pins : List (Addr × Obj)) (σ : St) (tg : Expr) (R : It → Hp → Prop) (itv : Value) (s2 : Shared) : Prop :=
  ∃ (it : Addr) (fp : List Addr) (tn : Nat → Heap → Prop) (J : It) (H' : Hp), itv = .ref it ∧ Inv X pins σ H' s2 ∧ Turn X.prog X.w X.K tg J fp it tn ∧ tn 0 s2.heap ∧ (∀ b ∈ fp, FpOk X pins H' b) ∧ R J H'
def PI (X : Cx) (tg iter : Expr) (wi : TI) : Prop :=
  ∀ (pins : List (Addr × Obj)) (s : Shared) (σ : St) (H : Hp) (R : It → Hp → Prop), Inv X pins σ H s → wi σ H R →
    wpAny (model X.prog X.w) X.A (eval iter X.env) (fun v s1 => wpAny (model X.prog X.w) X.A (pyIter v) (PIE X pins σ tg R) X.xe s1) X.xe s

/-- the step ahead of the store is nothing for an iterator that keeps no tuple -/
theorem go_of {M : Model} {A : Around} {E : Value → Shared → Prop} {s : Shared} {tg : Expr} {it : Addr} {u : Value} {o : Obj} {n : String} {vs : Array Value} {Q : Unit → Shared → Prop} (ho : s.heap.get? it = some o) (hc : o.cls = .type n) (hd : o.data = .fields vs)
    (hn : ["enumerate", "zip", "dict_itemiterator", "dict_reverseitemiterator", "odict_iterator", "itertools.zip_longest", "itertools.pairwise"].contains n = false) (hQ : Q () s) : wpAny M A (letOwnedTupleGo tg (.ref it) u) Q E s := by
  unfold letOwnedTupleGo
  cases tg <;> first
    | exact wpAny_pure hQ
    | (cases u <;> first
        | exact wpAny_pure hQ
        | (refine wpAny_bind (wpAny_load ho ?_)
           rw [hc, hd]
           show wpAny M A (if (["enumerate", "zip", "dict_itemiterator", "dict_reverseitemiterator", "odict_iterator", "itertools.zip_longest", "itertools.pairwise"].contains n && vs[0]? == some (rawInt _)) = true then _ else _) Q E s
           rw [if_neg (by intro h; rw [hn, Bool.false_and] at h; cases h)]
           exact wpAny_pure hQ))

/-- the list at a, as it stands at each turn (a loop may append to it) -/
def Itl (K : PySem.W.Frag) (a : Addr) : It :=
  ⟨fun i H => ∃ xs x, SqL K H a xs ∧ xs[i]? = some x, fun i H x H' => H' = H ∧ ∀ xs, SqL K H a xs → xs[i]? = some x, fun i H => ∃ xs, SqL K H a xs ∧ xs.length ≤ i⟩
/-- lo, lo + 1, .. (n of them) -/
def Itr (lo : Int) (n : Nat) : It := ⟨fun i _ => i < n, fun i H x H' => H' = H ∧ x = .int (lo + i), fun i _ => n ≤ i⟩
theorem turn_list {P : Program} {w : World} {K : PySem.W.Frag} {tg : Expr} (a it : Addr) : Turn P w K tg (Itl K a) [it] it (fun i h => h.IsListIter it a i) where
  mem := by simp
  obj := fun i h st b hb => by
    have e : b = it := by simpa using hb
    subst e
    obtain ⟨o, e, c, d⟩ := st
    exact ⟨o, e, fun v z => by rw [d] at z; cases z⟩
  keep := fun i h h' st k => st.at fun o e => k it (by simp) o e
  item := by
    intro X hP hw hK hc i pins s σ H E I hf st hg
    subst hP hw hK
    obtain ⟨xs, x, hq, hx⟩ := hg
    obtain ⟨its, rv, p, hz⟩ := I.list hq
    obtain ⟨u, hu, ru⟩ := rv.get hx
    obtain ⟨f0, f1, f2, f3, f4, f5⟩ := hf it (by simp)
    refine wpAny_pyNext_list_item st p.isList (x := u) (by simpa using hu) fun h' st' sb => ?_
    have I1 : Inv X pins σ H { s with heap := h' } := I.turned (t' := s.toks) (fun b o hb e => (sb.2 b hb).trans e) f0 f1 f3 f4 f5
    obtain ⟨o, e, c, d⟩ := id st'
    exact ⟨u, rfl, go_of (s := { s with heap := h' }) e c d (by decide) ⟨x, H, I1, ru, ⟨rfl, fun ys hy => by rw [I.list_inj hy hq]; exact hx⟩, st', fun b hb => (hf b hb).1⟩⟩
  done := by
    intro X hP hw hK hc i pins s σ H E I hf st hg
    subst hP hw hK
    obtain ⟨xs, hq, hx⟩ := hg
    obtain ⟨its, rv, p, hz⟩ := I.list hq
    obtain ⟨f0, f1, f2, f3, f4, f5⟩ := hf it (by simp)
    have hl := rv.length
    exact wpAny_pyNext_list_end (I.ok.hd hc) st p.isList (by simp; omega) fun h' eb => ⟨rfl, I.turned (t' := s.toks) (fun b o hb e => eb b o hb e) f0 f1 f3 f4 f5⟩
  self := fun _ _ _ _ _ st h => wpAny_pyIter_listiter st h
theorem turn_range {P : Program} {w : World} {K : PySem.W.Frag} {tg : Expr} (it : Addr) (lo : Int) (n : Nat) : Turn P w K tg (Itr lo n) [it] it (fun i h => IsRangeIter h it (lo + (i : Nat) * 1) ((n : Int) - (i : Nat)) 1) where
  mem := by simp
  obj := fun i h st b hb => by
    have e : b = it := by simpa using hb
    subst e
    exact ⟨_, st, fun v z => by
      have z' : Data.fields _ = Data.cell v := z
      cases z'⟩
  keep := fun i h h' st k => k it (by simp) _ st
  item := by
    intro X hP hw hK hc i pins s σ H E I hf st hg
    subst hP hw hK
    obtain ⟨f0, f1, f2, f3, f4, f5⟩ := hf it (by simp)
    have W := Walks.range (prog := X.prog) (w := X.w) (I.ok.hd hc) it lo 1 n
    refine W.item i s _ _ hg st fun v h' tk hv st' kk => ?_
    obtain ⟨t, rfl⟩ := hv
    have I1 : Inv X pins σ H { s with heap := h', toks := tk } := I.turned (fun b o hb e => kk b o (by simpa using hb) e) f0 f1 f3 f4 f5
    refine ⟨_, rfl, go_of (s := { s with heap := h', toks := tk }) (n := "range_iterator") st' rfl rfl (by decide) ⟨.int (lo + i), H, I1, ⟨t, ?_⟩, ⟨rfl, rfl⟩, st', fun b hb => (hf b hb).1⟩⟩
    rw [Int.mul_one]
  done := by
    intro X hP hw hK hc i pins s σ H E I hf st hg
    subst hP hw hK
    obtain ⟨f0, f1, f2, f3, f4, f5⟩ := hf it (by simp)
    exact wpAny_pyNext_range_end (I.ok.hd hc) st (by have : n ≤ i := hg; omega) fun h' eb => ⟨rfl, I.turned (t' := s.toks) (fun b o hb e => eb b o hb e) f0 f1 f3 f4 f5⟩
  self := fun _ _ _ _ _ st h => wpAny_pyIter_rangeiter st h
end L2

namespace L2
open PySem PySem.Spec PyProof.Rows
section
variable {X : Cx} {tg : Expr}
def iList (K : PySem.W.Frag) (tl : TE) : TI := fun σ H R => tl σ H fun x H1 => ∃ a, x = .ref a ∧ (∃ xs, SqL K H1 a xs) ∧ R (Itl K a) H1
theorem pi_list {l : Expr} {tl : TE} (hl : PE X l tl) : PI X tg l (iList X.K tl) := by
  intro pins s σ H R I h
  refine thn (hl pins s σ H _ I h) fun v s1 ⟨x, H1, I1, r1, q1⟩ => ?_
  obtain ⟨a, e, ⟨xs, hq⟩, q⟩ := q1
  subst e
  cases r1
  obtain ⟨its, rv, p, hz⟩ := I1.list hq
  refine wpAny_pyIter_list p.isList ?_
  refine ⟨s1.heap.objs.size, [s1.heap.objs.size], _, _, H1, rfl, I1.kept (t' := s1.toks) fun b o e => Heap.get?_push_of_some _ e, turn_list a _, ⟨_, Heap.get?_push_size _ rfl, rfl, rfl⟩, fun b hb => ?_, q⟩
  have e : b = s1.heap.objs.size := by simpa using hb
  subst e
  exact I1.fpOk (Nat.le_refl _) (I1.hok.fresh (Nat.le_refl _))
/-- a range object just made, walked -/
theorem range_it {pins : List (Addr × Obj)} {σ : St} {H : Hp} {s : Shared} {R : It → Hp → Prop} {E : Value → Shared → Prop} {lo hi : Int} {t u v : Tok} {tk : Nat} (I : Inv X pins σ H s) (h1 : -(2 ^ 62) ≤ lo) (h2 : lo < 2 ^ 62) (h3 : -(2 ^ 62) ≤ hi) (h4 : hi < 2 ^ 62)
    (q : R (Itr lo (hi - lo).toNat) H) : wpAny (model X.prog X.w) X.A (pyIter (.ref s.heap.objs.size)) (PIE X pins σ tg R) E { s with heap := s.heap.push { cls := .type "range", data := .fields #[.int lo t, .int hi u, .int 1 v] }, toks := tk } := by
  refine wpAny_pyIter_range (IsRange.new ..) (small_one h1 h2 h3 h4) ?_
  have I1 : Inv X pins σ H { s with heap := s.heap.push { cls := .type "range", data := .fields #[.int lo t, .int hi u, .int 1 v] }, toks := tk } := I.kept fun b o e => Heap.get?_push_of_some _ e
  refine ⟨(s.heap.push { cls := .type "range", data := .fields #[.int lo t, .int hi u, .int 1 v] }).objs.size, [(s.heap.push { cls := .type "range", data := .fields #[.int lo t, .int hi u, .int 1 v] }).objs.size], _, _, H, rfl,
    I1.kept (t' := tk) fun b o e => Heap.get?_push_of_some _ e, turn_range _ lo (hi - lo).toNat, ?_, fun b hb => ?_, q⟩
  · have e1 : lo + ((0 : Nat) : Int) * 1 = lo := by simp
    have e2 : (((hi - lo).toNat : Nat) : Int) - ((0 : Nat) : Int) = Builtin.Range.rangeSize lo hi 1 := by rw [rangeSize_one]; split <;> omega
    show IsRangeIter _ _ (lo + ((0 : Nat) : Int) * 1) ((((hi - lo).toNat : Nat) : Int) - ((0 : Nat) : Int)) 1
    rw [e1, e2]
    exact Heap.get?_push_size _ rfl
  · have e : b = (s.heap.push { cls := .type "range", data := .fields #[.int lo t, .int hi u, .int 1 v] }).objs.size := by simpa using hb
    subst e
    exact I1.fpOk (Nat.le_refl _) (I1.hok.fresh (Nat.le_refl _))
def iRng1 (ta : TA) : TI := fun σ H R => ta σ H fun vs H1 => ∃ j : Int, vs = [.int j] ∧ -(2 ^ 62) ≤ j ∧ j < 2 ^ 62 ∧ R (Itr 0 j.toNat) H1
theorem pi_range1 {a : Expr} {ta : TA} {p pos : Pos} (hg : Gl X "range") (hm : X.mg "range" = none) (ha : PA X [a] ta) (hs : starEach [a] X.env = [(false, eval a X.env)] := by rfl) : PI X tg (.Call (.Name "range" p) [a] [] pos) (iRng1 ta) := by
  intro pins s σ H R I h
  refine Call_ (ld_blt I hg hm boot_range (PyProof.Rows.callWith_type1 (thn (ha pos pins s σ H _ I h) fun us s1 ⟨vs, H1, I1, r1, q1⟩ => ?_) hs rfl))
  obtain ⟨j, e, q1, q2, q⟩ := q1
  subst e
  cases r1 with
  | cons r rr =>
    cases rr
    obtain ⟨t, rfl⟩ := r
    exact call_range_1 (range_it I1 (by omega) (by omega) q1 q2 (by simpa using q))

/-! ### for -/
/-- W: the invariant by the turn and a measure; N: what the body is to reach -/
def tFor (wi : TI) (g : TG) (tb : TS) : TS := fun D σ H => wi σ H fun J H1 => ∃ W : Nat → Nat → St → Hp → Prop, (∃ m, W 0 m σ H1) ∧ ∀ i m σ H, W i m σ H →
  (J.stop i H ∧ D.nx σ H) ∨ (J.go i H ∧ ∃ N : St → Hp → Prop, (∀ σ' H', N σ' H' → ∃ m', m' < m ∧ W (i + 1) m' σ' H') ∧ ∀ x H', J.yld i H x H' → g x σ H' fun σ2 H2 => tb { D with nx := N, ct := N, bk := D.nx } σ2 H2)
/-- the records at fp as they stand -/
def pinsAt (fp : List Addr) (h : Heap) : List (Addr × Obj) := fp.filterMap fun b => (h.get? b).map fun o => (b, o)
theorem mem_pinsAt {fp : List Addr} {h : Heap} {b : Addr} {o : Obj} (hb : b ∈ fp) (e : h.get? b = some o) : (b, o) ∈ pinsAt fp h := List.mem_filterMap.mpr ⟨b, hb, by rw [e]; rfl⟩
theorem of_pinsAt {fp : List Addr} {h : Heap} {p : Addr × Obj} (hp : p ∈ pinsAt fp h) : p.1 ∈ fp ∧ h.get? p.1 = some p.2 := by
  obtain ⟨b, hb, e⟩ := List.mem_filterMap.mp hp
  cases q : h.get? b with
  | none => rw [q] at e; cases e
  | some o =>
    rw [q] at e
    have e' : (b, o) = p := Option.some.inj e
    subst e'
    exact ⟨hb, q⟩
theorem Inv.pinned {pins : List (Addr × Obj)} {σ : St} {H : Hp} {s : Shared} {fp : List Addr} (I : Inv X pins σ H s) (hf : ∀ b ∈ fp, FpOk X pins H b) (ho : ∀ b ∈ fp, ∃ o, s.heap.get? b = some o ∧ ∀ v, o.data ≠ .cell v) : Inv X (pins ++ pinsAt fp s.heap) σ H s :=
  I.pins_of fun p hp => (List.mem_append.mp hp).elim (fun z => I.pin p (List.mem_append_right _ z)) fun z => by
    obtain ⟨hb, e⟩ := of_pinsAt z
    obtain ⟨f0, f1, f2, _⟩ := hf p.1 hb
    obtain ⟨o, e', d⟩ := ho p.1 hb
    rw [e] at e'; cases e'
    exact ⟨e, f0, f1, f2, d⟩
theorem Inv.unpinned {pins pl : List (Addr × Obj)} {σ : St} {H : Hp} {s : Shared} (I : Inv X (pins ++ pl) σ H s) : Inv X pins σ H s := I.pins_of fun p hp => I.pin p (List.mem_append_right _ (List.mem_append_left _ hp))
theorem ps_for {iter : Expr} {body : List Stmt} {wi : TI} {g : TG} {tb : TS} {pos : Pos} (hp : PassesOwn (model X.prog X.w) X.A X.env X.xe) (hc : X.calm = true) (hi : PI X tg iter wi) (hg : PG X tg g) (hb : PSs X body tb)
    (hs : ∀ x, foldedSetIterable iter X.env x = pure x := by intro _; rfl) : PS X (.For tg iter body [] pos) (tFor wi g tb) := by
  intro pins s σ H D I h
  refine wpAny_For (thn (hi pins s σ H _ I h) fun v s1 h1 => thn h1 fun itv s2 h2 => ?_) hs
  obtain ⟨it, fp, tn, J, H2, e, I2, T, st2, f2, W, ⟨m0, w0⟩, turn⟩ := h2
  subst e
  -- what stays true of the iterator's objects through the loop
  have stat : ∀ {H' : Hp}, (∀ b ∈ fp, H' b = none) → ∀ b ∈ fp, FpOk X pins H' b := fun hn b hb => ⟨hn b hb, (f2 b hb).2⟩
  refine codeAny_forLoop_any (fun n s' => ∃ i σ' H', Inv X pins σ' H' s' ∧ tn i s'.heap ∧ (∀ b ∈ fp, H' b = none) ∧ W i n σ' H') ?_ m0 ⟨0, σ, H2, I2, st2, fun b hb => (f2 b hb).1, w0⟩
  rintro n s3 ⟨i, σ3, H3, I3, st3, fr3, w3⟩
  rcases turn i n σ3 H3 w3 with ⟨stop, qn⟩ | ⟨go, N, hN, step⟩
  · refine wpAny_passesOwn hp (thn (T.done X rfl rfl rfl hc i pins s3 σ3 H3 X.xe I3 (stat fr3) st3 stop) fun r s4 ⟨hr, I4⟩ => ?_)
    subst hr
    exact wpAny_execs_nil ⟨σ3, H3, I4, qn⟩
  · refine wpAny_passesOwn hp (thn (T.item X rfl rfl rfl hc i pins s3 σ3 H3 X.xe I3 (stat fr3) st3 go) fun r s4 ⟨u, hr, h4⟩ => ?_)
    subst hr
    refine wpAny_passesOwn hp (thn h4 fun _ s5 ⟨x, H5, I5, r5, y5, st5, fr5⟩ => ?_)
    have I5' := I5.pinned (stat fr5) (T.obj _ _ st5)
    refine wpAny_passesOwn hp (thn (hg _ s5 σ3 H5 x u _ I5' r5 (step x H5 y5)) fun _ s6 ⟨σ6, H6, I6, q6⟩ => ?_)
    refine wpAny_passesOwn hp (thn (hb _ s6 σ6 H6 _ I6 q6) fun f s7 q7 => ?_)
    have again : ∀ {σ7 : St} {H7 : Hp}, Inv X (pins ++ pinsAt fp s5.heap) σ7 H7 s7 → N σ7 H7 → ∃ m, m < n ∧ ∃ i σ' H', Inv X pins σ' H' s7 ∧ tn i s7.heap ∧ (∀ b ∈ fp, H' b = none) ∧ W i m σ' H' := fun {σ7 H7} I7 n7 => by
      obtain ⟨m', hm, w7⟩ := hN σ7 H7 n7
      refine ⟨m', hm, i + 1, σ7, H7, I7.unpinned, T.keep _ _ _ st5 fun b hb o e => (I7.pin (b, o) (List.mem_append_right _ (List.mem_append_right _ (mem_pinsAt hb e)))).1, fun b hb => ?_, w7⟩
      obtain ⟨o, e, d⟩ := T.obj _ _ st5 b hb
      exact (I7.pin (b, o) (List.mem_append_right _ (List.mem_append_right _ (mem_pinsAt hb e)))).2.1
    cases f with
    | next => obtain ⟨σ7, H7, I7, n7⟩ := q7; exact again I7 n7
    | cont => obtain ⟨σ7, H7, I7, n7⟩ := q7; exact again I7 n7
    | brk => obtain ⟨σ7, H7, I7, q7⟩ := q7; exact ⟨σ7, H7, I7.unpinned, q7⟩
    | ret v => obtain ⟨x7, σ7, H7, I7, r7, q7⟩ := q7; exact ⟨x7, σ7, H7, I7.unpinned, r7, q7⟩
end

/-! ### the forms one uses -/
/-- over a list that the body leaves as it is -/
theorem for_list {K : PySem.W.Frag} {a : Addr} {xs : List V} {g : TG} {tb : TS} {D : Ends} {σ : St} {H : Hp} (Pv : Nat → St → Hp → Prop) (h0 : Pv 0 σ H) (hl : ∀ i σ H, i ≤ xs.length → Pv i σ H → SqL K H a xs)
    (hs : ∀ i x σ H, xs[i]? = some x → Pv i σ H → g x σ H fun σ2 H2 => tb { D with nx := Pv (i + 1), ct := Pv (i + 1), bk := D.nx } σ2 H2) (hd : ∀ σ H, Pv xs.length σ H → D.nx σ H) :
    ∃ W : Nat → Nat → St → Hp → Prop, (∃ m, W 0 m σ H) ∧ ∀ i m σ H, W i m σ H →
      ((Itl K a).stop i H ∧ D.nx σ H) ∨ ((Itl K a).go i H ∧ ∃ N : St → Hp → Prop, (∀ σ' H', N σ' H' → ∃ m', m' < m ∧ W (i + 1) m' σ' H') ∧ ∀ x H', (Itl K a).yld i H x H' → g x σ H' fun σ2 H2 => tb { D with nx := N, ct := N, bk := D.nx } σ2 H2) := by
  refine ⟨fun i m σ H => m = xs.length - i ∧ i ≤ xs.length ∧ Pv i σ H, ⟨xs.length, by simp, Nat.zero_le _, h0⟩, ?_⟩
  rintro i m σ H ⟨rfl, hi, p⟩
  have q := hl i σ H hi p
  by_cases hlt : i < xs.length
  · refine .inr ⟨⟨xs, xs[i], q, by simp [hlt]⟩, Pv (i + 1), fun σ' H' p' => ⟨xs.length - (i + 1), by omega, rfl, hlt, p'⟩, fun x H' y => ?_⟩
    obtain ⟨e, y⟩ := y
    subst e
    exact hs i x σ _ (y xs q) p
  · have e : i = xs.length := by omega
    subst e
    exact .inl ⟨⟨xs, q, Nat.le_refl _⟩, hd σ H p⟩
theorem for_range {lo : Int} {n : Nat} {g : TG} {tb : TS} {D : Ends} {σ : St} {H : Hp} (Pv : Nat → St → Hp → Prop) (h0 : Pv 0 σ H)
    (hs : ∀ i σ H, i < n → Pv i σ H → g (.int (lo + i)) σ H fun σ2 H2 => tb { D with nx := Pv (i + 1), ct := Pv (i + 1), bk := D.nx } σ2 H2) (hd : ∀ σ H, Pv n σ H → D.nx σ H) :
    ∃ W : Nat → Nat → St → Hp → Prop, (∃ m, W 0 m σ H) ∧ ∀ i m σ H, W i m σ H →
      ((Itr lo n).stop i H ∧ D.nx σ H) ∨ ((Itr lo n).go i H ∧ ∃ N : St → Hp → Prop, (∀ σ' H', N σ' H' → ∃ m', m' < m ∧ W (i + 1) m' σ' H') ∧ ∀ x H', (Itr lo n).yld i H x H' → g x σ H' fun σ2 H2 => tb { D with nx := N, ct := N, bk := D.nx } σ2 H2) := by
  refine ⟨fun i m σ H => m = n - i ∧ i ≤ n ∧ Pv i σ H, ⟨n, by simp, Nat.zero_le _, h0⟩, ?_⟩
  rintro i m σ H ⟨rfl, hi, p⟩
  by_cases hlt : i < n
  · refine .inr ⟨hlt, Pv (i + 1), fun σ' H' p' => ⟨n - (i + 1), by omega, rfl, hlt, p'⟩, fun x H' y => ?_⟩
    obtain ⟨e, y⟩ := y
    subst e y
    exact hs i σ _ hlt p
  · have e : i = n := by omega
    subst e
    exact .inl ⟨Nat.le_refl _, hd σ H p⟩
end L2

namespace L2
open PySem PySem.Spec PyProof.Rows

abbrev R2 := V → V → Hp → VK → Prop
/-- a two-place operation on values: f is binaryOp op, inplaceOp op or compareOp op -/
def OpR (X : Cx) (f : Value → Value → Sem Value) (r : R2) : Prop :=
  ∀ (pins : List (Addr × Obj)) (s : Shared) (σ : St) (H : Hp) (x y : V) (v u : Value) (Q : VK), Inv X pins σ H s → RelV x v → RelV y u → r x y H Q →
    wpAny (model X.prog X.w) X.A (f v u) (EP X pins σ Q) X.xe s
/-- a call of a value that is known (a builtin, a type) with values -/
def CallR (X : Cx) (f : Value) (r : List V → Hp → VK → Prop) : Prop :=
  ∀ (pins : List (Addr × Obj)) (s : Shared) (σ : St) (H : Hp) (xs : List V) (us : List Value) (Q : VK), Inv X pins σ H s → Vals xs us → r xs H Q →
    wpAny (model X.prog X.w) X.A (call f us) (EP X pins σ Q) X.xe s

def tOp (r : R2) (ta tb : TE) : TE := fun σ H Q => ta σ H fun x H1 => tb σ H1 fun y H2 => r x y H2 Q
/-- ints in, under C, and a value out -/
def rI (C : Int → Int → Prop) (g : Int → Int → V) : R2 := fun x y H Q => ∃ i j, x = .int i ∧ y = .int j ∧ C i j ∧ Q (g i j) H
def rI0 (g : Int → Int → V) : R2 := fun x y H Q => ∃ i j, x = .int i ∧ y = .int j ∧ Q (g i j) H

section
variable {X : Cx} {a b c : Expr} {ta tb tc : TE} {pos : Pos}

theorem binT (ha : PE X a ta) (hb : PE X b tb) {pins : List (Addr × Obj)} {s : Shared} {σ : St} {H : Hp} {R : V → V → Hp → Prop} (I : Inv X pins σ H s)
    (h : ta σ H fun x H1 => tb σ H1 fun y H2 => R x y H2) {Q : Value → Shared → Prop} {f : Value → Value → Sem Value}
    (hf : ∀ v u s2 x y H2, Inv X pins σ H2 s2 → RelV x v → RelV y u → R x y H2 → wpAny (model X.prog X.w) X.A (f v u) Q X.xe s2) :
    wpAny (model X.prog X.w) X.A (eval a X.env) (fun v s₁ => wpAny (model X.prog X.w) X.A (eval b X.env) (fun u s₂ => wpAny (model X.prog X.w) X.A (f v u) Q X.xe s₂) X.xe s₁) X.xe s := by
  refine thn (ha pins s σ H _ I h) fun v s1 ⟨x, H1, I1, r1, q1⟩ => ?_
  refine thn (hb pins s1 σ H1 _ I1 q1) fun u s2 ⟨y, H2, I2, r2, q2⟩ => ?_
  exact hf v u s2 x y H2 I2 r1 r2 q2

theorem pe_op {op : Operator} {r : R2} (ho : OpR X (binaryOp op) r) (ha : PE X a ta) (hb : PE X b tb) : PE X (.BinOp a op b pos) (tOp r ta tb) := by
  intro pins s σ H Q I h
  exact wpAny_BinOp (binT ha hb I h fun v u s2 x y H2 I2 rx ry q => ho pins s2 σ H2 x y v u Q I2 rx ry q)

/-! ### ints -/
theorem opI {f : Value → Value → Sem Value} {C : Int → Int → Prop} {g : Int → Int → Int}
    (rule : ∀ (i j : Int) (t u : Tok) (s : Shared) (Q : Value → Shared → Prop) (E : Value → Shared → Prop), C i j → Q (.int (g i j) s.toks) { s with toks := s.toks + 1 } → wpAny (model X.prog X.w) X.A (f (.int i t) (.int j u)) Q E s) :
    OpR X f (rI C fun i j => .int (g i j)) := by
  intro pins s σ H x y v u Q I rx ry h
  obtain ⟨i, j, rfl, rfl, hc, q⟩ := h
  obtain ⟨t, rfl⟩ := rx
  obtain ⟨t', rfl⟩ := ry
  exact rule i j t t' s _ _ hc ⟨.int (g i j), H, I.tok _, ⟨_, rfl⟩, q⟩
theorem opI0 {f : Value → Value → Sem Value} {g : Int → Int → Int}
    (rule : ∀ (i j : Int) (t u : Tok) (s : Shared) (Q : Value → Shared → Prop) (E : Value → Shared → Prop), Q (.int (g i j) s.toks) { s with toks := s.toks + 1 } → wpAny (model X.prog X.w) X.A (f (.int i t) (.int j u)) Q E s) :
    OpR X f (rI0 fun i j => .int (g i j)) := by
  intro pins s σ H x y v u Q I rx ry h
  obtain ⟨i, j, rfl, rfl, q⟩ := h
  obtain ⟨t, rfl⟩ := rx
  obtain ⟨t', rfl⟩ := ry
  exact rule i j t t' s _ _ ⟨.int (g i j), H, I.tok _, ⟨_, rfl⟩, q⟩
theorem opB0 {f : Value → Value → Sem Value} {g : Int → Int → Bool}
    (rule : ∀ (i j : Int) (t u : Tok) (s : Shared) (Q : Value → Shared → Prop) (E : Value → Shared → Prop), Q (.bool (g i j)) s → wpAny (model X.prog X.w) X.A (f (.int i t) (.int j u)) Q E s) :
    OpR X f (rI0 fun i j => .bl (g i j)) := by
  intro pins s σ H x y v u Q I rx ry h
  obtain ⟨i, j, rfl, rfl, q⟩ := h
  obtain ⟨t, rfl⟩ := rx
  obtain ⟨t', rfl⟩ := ry
  exact rule i j t t' s _ _ ⟨.bl (g i j), H, I, rfl, q⟩

def CDiv (i j : Int) : Prop := 0 < j ∧ j < 1073741824
theorem two_pow_nn (k : Nat) : (0 : Int) ≤ 2 ^ k := by
  rw [two_pow_cast]
  exact Int.natCast_nonneg _

theorem op_add : OpR X (binaryOp .Add) (rI0 fun i j => .int (i + j)) := opI0 fun _ _ _ _ _ _ _ q => add_int q
theorem op_sub : OpR X (binaryOp .Sub) (rI0 fun i j => .int (i - j)) := opI0 fun _ _ _ _ _ _ _ q => sub_int q
/-- // by a positive divisor -/
theorem op_fdiv : OpR X (binaryOp .FloorDiv) (rI CDiv fun i j => .int (i / j)) := opI fun i j _ _ _ _ _ hc q => by
  have h1 : (0 : Int) < j := hc.1
  have h2 : j < 1073741824 := hc.2
  exact floordiv_int (by omega) (by rw [Int.fdiv_eq_ediv_of_nonneg i (by omega)]; exact q) (.inl (PyProof.noPylong_small (by omega)))
/-- % by a positive divisor of any size -/
theorem op_mod : OpR X (binaryOp .Mod) (rI (fun _ j => 0 < j) fun i j => .int (i % j)) := opI fun i j _ _ _ _ _ hc q => by
  have h1 : (0 : Int) < j := hc
  exact mod_int' (by omega) (by rw [Int.fmod_eq_emod_of_nonneg i (by omega)]; exact q)
theorem op_shr : OpR X (binaryOp .RShift) (rI (fun _ j => 0 ≤ j) fun i j => .int (i / 2 ^ j.toNat)) := opI fun i j _ _ _ _ _ hc q =>
  rshift_int hc (by rw [Int.fdiv_eq_ediv_of_nonneg i (two_pow_nn _)]; exact q)
theorem op_and : OpR X (binaryOp .BitAnd) (rI0 fun i j => .int (Builtin.bitAnd i j)) := opI0 fun _ _ _ _ _ _ _ q => and_int q



/-! ### bools among ints: n += (a < b) -/
end

/-! ### comparisons -/
/-- the scalars that == tells apart as data does -/
def scal : V → V → Bool
  | .non, .non => true | .non, .int _ => true | .int _, .non => true | .non, .bl _ => true | .bl _, .non => true | .non, .str _ => true | .str _, .non => true
  | .int _, .int _ => true | .bl _, .bl _ => true | .str _, .str _ => true | .byt _, .byt _ => true
  | .int _, .str _ => true | .str _, .int _ => true | .bl _, .str _ => true | .str _, .bl _ => true
  | _, _ => false
def rEq : R2 := fun x y H Q => scal x y = true ∧ Q (.bl (decide (x = y))) H
def rNe : R2 := fun x y H Q => scal x y = true ∧ Q (.bl (!decide (x = y))) H

theorem dec_int {i j : Int} : decide (V.int i = V.int j) = (i == j) := by
  rw [Bool.eq_iff_iff]
  simp
theorem dec_bl {i j : Bool} : decide (V.bl i = V.bl j) = (i == j) := by
  rw [Bool.eq_iff_iff]
  simp
theorem dec_str {i j : Str} : decide (V.str i = V.str j) = (i == j) := by
  rw [Bool.eq_iff_iff]
  simp
theorem dec_byt {i j : Array UInt8} : decide (V.byt i = V.byt j) = (i.toList == j.toList) := by
  rw [Bool.eq_iff_iff]
  cases i
  cases j
  simp

section
variable {X : Cx} {a b c : Expr} {ta tb tc : TE} {pos : Pos}
theorem fin_bl {pins : List (Addr × Obj)} {σ : St} {H : Hp} {s : Shared} {Q : VK} {k k' : Bool} (I : Inv X pins σ H s) (q : Q (.bl k) H) (e : k = k') : EP X pins σ Q (.bool k') s := by
  subst e
  exact ⟨.bl k, H, I, rfl, q⟩
theorem op_eq : OpR X (compareOp .Eq) rEq := by
  intro pins s σ H x y v u Q I rx ry h
  obtain ⟨hs, q⟩ := h
  cases x with
  | non =>
    cases rx
    cases y with
    | non => cases ry; exact PySem.EqNone.eq_none_none (fin_bl I q (by simp))
    | bl j => cases ry; exact PySem.EqNone.eq_none_bool (fin_bl I q (by simp))
    | int j => obtain ⟨t', rfl⟩ := ry; exact PySem.EqNone.eq_none_int (fin_bl I q (by simp))
    | str j => obtain ⟨t', rfl⟩ := ry; exact PySem.EqNone.eq_none_str (fin_bl I q (by simp))
    | _ => exact absurd (show false = true from hs) Bool.false_ne_true
  | bl i =>
    cases rx
    cases y with
    | non => cases ry; exact PySem.EqNone.eq_bool_none (fin_bl I q (by simp))
    | bl j => cases ry; exact eq_bool (fin_bl I q dec_bl)
    | str j => obtain ⟨t', rfl⟩ := ry; exact PySem.EqMixed.eq_bool_str (fin_bl I q (by simp))
    | _ => exact absurd (show false = true from hs) Bool.false_ne_true
  | int i =>
    obtain ⟨t, rfl⟩ := rx
    cases y with
    | non => cases ry; exact PySem.EqNone.eq_int_none (fin_bl I q (by simp))
    | int j => obtain ⟨t', rfl⟩ := ry; exact eq_int (fin_bl I q dec_int)
    | str j => obtain ⟨t', rfl⟩ := ry; exact PySem.EqMixed.eq_int_str (fin_bl I q (by simp))
    | _ => exact absurd (show false = true from hs) Bool.false_ne_true
  | str i =>
    obtain ⟨t, rfl⟩ := rx
    cases y with
    | non => cases ry; exact PySem.EqNone.eq_str_none (fin_bl I q (by simp))
    | bl j => cases ry; exact PySem.EqMixed.eq_str_bool (fin_bl I q (by simp))
    | int j => obtain ⟨t', rfl⟩ := ry; exact PySem.EqMixed.eq_str_int (fin_bl I q (by simp))
    | str j => obtain ⟨t', rfl⟩ := ry; exact eq_str (fin_bl I q dec_str)
    | _ => exact absurd (show false = true from hs) Bool.false_ne_true
  | byt i =>
    obtain ⟨t, rfl⟩ := rx
    cases y with
    | byt j => obtain ⟨t', rfl⟩ := ry; exact PySem.W.eq_bytes (fin_bl I q dec_byt)
    | _ => exact absurd (show false = true from hs) Bool.false_ne_true
  | _ => cases y <;> exact absurd (show false = true from hs) Bool.false_ne_true
theorem op_ne : OpR X (compareOp .NotEq) rNe := by
  intro pins s σ H x y v u Q I rx ry h
  obtain ⟨hs, q⟩ := h
  cases x with
  | non =>
    cases rx
    cases y with
    | non => cases ry; exact PySem.EqNone.ne_none_none (fin_bl I q (by simp))
    | bl j => cases ry; exact PySem.EqNone.ne_none_bool (fin_bl I q (by simp))
    | int j => obtain ⟨t', rfl⟩ := ry; exact PySem.EqNone.ne_none_int (fin_bl I q (by simp))
    | str j => obtain ⟨t', rfl⟩ := ry; exact PySem.EqNone.ne_none_str (fin_bl I q (by simp))
    | _ => exact absurd (show false = true from hs) Bool.false_ne_true
  | bl i =>
    cases rx
    cases y with
    | non => cases ry; exact PySem.EqNone.ne_bool_none (fin_bl I q (by simp))
    | bl j => cases ry; exact ne_bool (fin_bl I q (congrArg not dec_bl))
    | str j => obtain ⟨t', rfl⟩ := ry; exact PySem.EqMixed.ne_bool_str (fin_bl I q (by simp))
    | _ => exact absurd (show false = true from hs) Bool.false_ne_true
  | int i =>
    obtain ⟨t, rfl⟩ := rx
    cases y with
    | non => cases ry; exact PySem.EqNone.ne_int_none (fin_bl I q (by simp))
    | int j => obtain ⟨t', rfl⟩ := ry; exact ne_int (fin_bl I q (congrArg not dec_int))
    | str j => obtain ⟨t', rfl⟩ := ry; exact PySem.EqMixed.ne_int_str (fin_bl I q (by simp))
    | _ => exact absurd (show false = true from hs) Bool.false_ne_true
  | str i =>
    obtain ⟨t, rfl⟩ := rx
    cases y with
    | non => cases ry; exact PySem.EqNone.ne_str_none (fin_bl I q (by simp))
    | bl j => cases ry; exact PySem.EqMixed.ne_str_bool (fin_bl I q (by simp))
    | int j => obtain ⟨t', rfl⟩ := ry; exact PySem.EqMixed.ne_str_int (fin_bl I q (by simp))
    | str j => obtain ⟨t', rfl⟩ := ry; exact ne_str (fin_bl I q (congrArg not dec_str))
    | _ => exact absurd (show false = true from hs) Bool.false_ne_true
  | byt i =>
    obtain ⟨t, rfl⟩ := rx
    cases y with
    | byt j => obtain ⟨t', rfl⟩ := ry; exact PySem.W.ne_bytes (fin_bl I q (congrArg not dec_byt))
    | _ => exact absurd (show false = true from hs) Bool.false_ne_true
  | _ => cases y <;> exact absurd (show false = true from hs) Bool.false_ne_true

theorem op_lt : OpR X (compareOp .Lt) (rI0 fun i j => .bl (decide (i < j))) := opB0 fun _ _ _ _ _ _ _ q => lt_int q
theorem op_le : OpR X (compareOp .LtE) (rI0 fun i j => .bl (decide (i ≤ j))) := opB0 fun _ _ _ _ _ _ _ q => le_int q
theorem op_gt : OpR X (compareOp .Gt) (rI0 fun i j => .bl (decide (j < i))) := opB0 fun _ _ _ _ _ _ _ q => gt_int q




theorem nomark (b : Expr) {op : CmpOp} (h : op ≠ .In := by decide) (h2 : op ≠ .NotIn := by decide) : behindInMarks op b = false := by
  have e1 : (op == CmpOp.In) = false := by cases op <;> first | rfl | exact absurd rfl h
  have e2 : (op == CmpOp.NotIn) = false := by cases op <;> first | rfl | exact absurd rfl h2
  cases b <;> simp [behindInMarks, e1, e2]
/-- a comparison as a value; hm: nomark b, or (for in, not in) by with_unfolding_all rfl -/
theorem pe_cmpR {op : CmpOp} {r : R2} (ho : OpR X (compareOp op) r) (ha : PE X a ta) (hb : PE X b tb) (hm : behindInMarks op b = false) : PE X (.Compare a [op] [b] pos) (tOp r ta tb) := by
  intro pins s σ H Q I h
  exact wpAny_Compare1 (binT ha hb I h fun v u s2 x y H2 I2 rx ry q => ho pins s2 σ H2 x y v u Q I2 rx ry q) hm
/-- a reading of a value as a test -/
def tTest (t : TE) : TT := fun σ H Q => t σ H fun x H' => ∃ k, x = .bl k ∧ Q k H'
theorem pt_cmpR {op : CmpOp} {r : R2} (ho : OpR X (compareOp op) r) (ha : PE X a ta) (hb : PE X b tb) (hm : behindInMarks op b = false) : PT X (.Compare a [op] [b] pos) (tTest (tOp r ta tb)) := by
  intro pins s σ H Q I h
  refine wpAny_isTrue_Compare1 (thn (ha pins s σ H _ I h) fun v s1 ⟨x, H1, I1, r1, q1⟩ => thn (hb pins s1 σ H1 _ I1 q1) fun u s2 ⟨y, H2, I2, r2, q2⟩ =>
    thn (ho pins s2 σ H2 x y v u _ I2 r1 r2 q2) fun c s3 ⟨z, H3, I3, r3, k, e, q3⟩ => ?_) hm
  subst e
  cases r3
  exact wpAny_truthy_bool ⟨H3, I3, q3⟩
/-- a op1 b op2 c -/
def tChain (r r' : R2) (ta tb tc : TE) : TE := fun σ H Q => ta σ H fun x H1 => tb σ H1 fun y H2 => r x y H2 fun z H3 => ∃ k, z = .bl k ∧
  (if k = true then tc σ H3 fun w' H4 => r' y w' H4 Q else Q (.bl false) H3)
theorem pe_chain {op op' : CmpOp} {r r' : R2} (ho : OpR X (compareOp op) r) (ho' : OpR X (compareOp op') r') (ha : PE X a ta) (hb : PE X b tb) (hc : PE X c tc)
    (hm : lastMarks [op, op'] [b, c] = false := by with_unfolding_all rfl) : PE X (.Compare a [op, op'] [b, c] pos) (tChain r r' ta tb tc) := by
  intro pins s σ H Q I h
  refine Compare_chain (thn (ha pins s σ H _ I h) fun v s1 ⟨x, H1, I1, r1, q1⟩ => chain_link (thn (hb pins s1 σ H1 _ I1 q1) fun u s2 ⟨y, H2, I2, r2, q2⟩ =>
    thn (ho pins s2 σ H2 x y v u _ I2 r1 r2 q2) fun d s3 ⟨z, H3, I3, r3, k, e, q3⟩ => ?_)) hm
  subst e
  cases r3
  refine wpAny_truthy_bool ?_
  cases k with
  | false => exact ite_ff ⟨.bl false, H3, I3, rfl, q3⟩
  | true => exact ite_tt (chain_last (thn (hc pins s3 σ H3 _ I3 q3) fun w' s4 ⟨z', H4, I4, r4, q4⟩ => ho' pins s4 σ H4 y z' u w' Q I4 r2 r4 q4))
theorem pt_chain {op op' : CmpOp} {r r' : R2} (ho : OpR X (compareOp op) r) (ho' : OpR X (compareOp op') r') (ha : PE X a ta) (hb : PE X b tb) (hc : PE X c tc)
    (hm : lastMarks [op, op'] [b, c] = false := by with_unfolding_all rfl) : PT X (.Compare a [op, op'] [b, c] pos) (tTest (tChain r r' ta tb tc)) := by
  intro pins s σ H Q I h
  refine isTrue_chain (thn (ha pins s σ H _ I h) fun v s1 ⟨x, H1, I1, r1, q1⟩ => test_link (thn (hb pins s1 σ H1 _ I1 q1) fun u s2 ⟨y, H2, I2, r2, q2⟩ =>
    thn (ho pins s2 σ H2 x y v u _ I2 r1 r2 q2) fun d s3 ⟨z, H3, I3, r3, k, e, q3⟩ => ?_)) hm
  subst e
  cases r3
  refine wpAny_truthy_bool ?_
  cases k with
  | false =>
    obtain ⟨k', e', q'⟩ := q3
    cases e'
    exact ite_ff ⟨H3, I3, q'⟩
  | true =>
    refine ite_tt (test_last (thn (hc pins s3 σ H3 _ I3 q3) fun w' s4 ⟨z', H4, I4, r4, q4⟩ => thn (ho' pins s4 σ H4 y z' u w' _ I4 r2 r4 q4) fun d' s5 ⟨z2, H5, I5, r5, k2, e2, q5⟩ => ?_))
    subst e2
    cases r5
    exact wpAny_truthy_bool ⟨H5, I5, q5⟩

/-! ### truth -/
theorem line63 : (sizeLine : Nat) < 2 ^ 63 := by rw [sizeLine_eq]; decide

/-! ### strs and bytes -/


/-! ### scalar builtins, by CallR -/
theorem vals1 {x : V} {us : List Value} (r : Vals [x] us) : ∃ u, us = [u] ∧ RelV x u := by
  cases r with
  | cons r1 r2 => cases r2; exact ⟨_, rfl, r1⟩
end
end L2

namespace L2
open PySem PySem.Spec PyProof.Rows

/-! ### an instance, its attributes a map -/
structure ObjM (h : Heap) (x dx C : Addr) (mA : Str → Option Value) : Prop where
  obj : h.get? x = some (PySem.W.instObj C dx)
  ns : h.Ns1 dx mA
  ne : dx ≠ x

theorem lookIn_ns {h : Heap} {dx : Addr} {mA : Str → Option Value} (n : h.Ns1 dx mA) : ∃ od, h.get? dx = some od ∧ ∀ name, PySem.W.lookIn name od = some (mA name) := by
  obtain ⟨o, es, ep, ho, hd, hk, _, hm⟩ := n
  refine ⟨o, ho, fun name => ?_⟩
  have e := hm name
  unfold nsFind findBy at e
  rw [← Array.find?_toList] at e
  unfold PySem.W.lookIn
  rw [hd]
  dsimp only
  split
  · rename_i y q
    rw [q] at e
    exact congrArg some e
  · rename_i q
    rw [q] at e
    have a : es.toList.any (·.refKey) = false := by
      rw [List.any_eq_false]
      intro y hy
      obtain ⟨z, t, hkey⟩ := hk y (Array.mem_toList_iff.mp hy)
      simp [DictEntry.refKey, hkey]
    have a' : ¬ es.toList.any (·.refKey) = true := by rw [a]; exact Bool.false_ne_true
    rw [if_neg a']
    exact congrArg some e

theorem ObjM.look {h : Heap} {x dx C : Addr} {mA : Str → Option Value} (I : ObjM h x dx C mA) : ∃ od, PySem.W.InstAt h x (PySem.W.instObj C dx) C (some od) ∧ ∀ name, PySem.W.lookIn name od = some (mA name) :=
  let ⟨od, ho, hl⟩ := lookIn_ns I.ns
  ⟨od, ⟨I.obj, rfl, rfl, ho⟩, hl⟩

section
variable {prog : Program} {w : World} {A : Around} {E : Value → Shared → Prop} {s : Shared} {K : PySem.W.Frag} {x dx C f : Addr} {mA : Str → Option Value} {name : Str} {v : Value}

theorem get_map {expr : Bool} {Q : Value → Shared → Prop} (X : K.In s.heap) (I : ObjM s.heap x dx C mA) (hg : PySem.W.plainGet K C name = true) (hh : PySem.W.hasDictIn K C = true)
    (ha : PySem.W.findIn K (.ref C) name = some none) (hv : mA name = some v) (hv' : PySem.W.handedIn v = true) (h : Q v { s with toks := s.toks + 1 }) :
    wpAny (model prog w) A (getAttr (.ref x) name expr) Q E s := by
  obtain ⟨od, J, hl⟩ := I.look
  exact PySem.W.get_value X J (PySem.W.plainGet_of hg).1 (PySem.W.findObj_own hh ha rfl (by rw [hl, hv])) hv' h



theorem set_map {ns : List Str} {Q : Unit → Shared → Prop} (X : K.In s.heap) (I : ObjM s.heap x dx C mA)
    (hs : PySem.W.findIn K (.ref C) "__setattr__" = some (some (.builtin "object.__setattr__"))) (hp : PySem.W.plainOver K C = true) (ht : PySem.W.takerIn K C name = some none) (hh : PySem.W.hasDictIn K C = true)
    (hw : PySem.Within mA ns) (hsz : ns.length ≤ sizeLine)
    (h : ∀ h', ObjM h' x dx C (fun y => if y = name then some v else mA y) → Heap.SameBut dx s.heap h' → Q () { s with heap := h', toks := s.toks + 2 }) :
    wpAny (model prog w) A (setAttr (.ref x) name v) Q E s := by
  obtain ⟨od, J, hl⟩ := I.look
  refine PySem.W.set_plain X J hs (PySem.W.osa_open (s := { s with toks := s.toks + 1 }) (r := none) X J hp ht fun b => ?_)
  obtain ⟨cd, hc, hd'⟩ := PySem.W.any_some hh
  have hx : s.heap.get? x = some ⟨.ref C, some dx, .plain, #[]⟩ := I.obj
  refine wpAny_bind (wpAny_pure (wpAny_bind (wpAny_bind (wpAny_loadPart hx (wpAny_bind (PySem.W.Looks.here (s := { s with toks := s.toks + 1 }) (PySem.W.looks_clsIn X hc) ?_))))))
  rw [hd']
  refine wpAny_pure (a := some dx) (wpAny_bind (wpAny_pure (wpAny_bind ?_)))
  refine wpAny_nsSet1 (s := { s with toks := s.toks + 1 }) I.ns fun h' hn2 hs2 => ?_
  obtain ⟨oD, esD, epD, hoD, hdD, hcD⟩ := hn2.count (PySem.Within.cons name v hw)
  refine wpAny_bind (wpAny_lookBehind hoD (by rw [hdD]; exact pastItsLine_dict (Nat.le_trans hcD (by rw [List.length_cons]; omega))) ?_)
  exact wpAny_pure (h _ ⟨(hs2.2 _ (Ne.symm I.ne)).trans I.obj, hn2, I.ne⟩ hs2)

/-- C(..): the dict at the heap's end, the instance behind it; then its __init__ -/
theorem make_map {R : Result → Shared → Prop} {vs : List Value} {kw : List (Str × Value)} (X : K.In s.heap) (hm : PySem.W.makesIn K C = true)
    (hi : PySem.W.findIn K (.ref C) "__init__" = some (some (.ref f))) (hf : PySem.W.typeIn K (.ref f) = some (.type "function"))
    (h : codeAny (model prog w) (A.under (.builtin "type.__call__" ⟨.ref C :: vs, kw⟩)) (.call (.ref f) ⟨.ref (s.heap.objs.size + 1) :: vs, kw⟩) (PySem.W.InitBack (s.heap.objs.size + 1) R)
      { s with heap := (s.heap.push PySem.W.emptyDict).push (PySem.W.instObj C s.heap.objs.size) }) :
    codeAny (model prog w) A (.call (.ref C) ⟨vs, kw⟩) R s := by
  obtain ⟨hh, g, d, t, os⟩ := s
  exact PySem.W.make_core (PySem.W.makes_of X hm) (PySem.W.looks_findIn X hi) (fun self => PySem.W.bind_fn X self hf) (.inl rfl) h
end

/-! ### the attributes as a list of pairs -/
def putF (f : Str) (v : V) : List (Str × V) → List (Str × V)
  | [] => [(f, v)]
  | (g, x) :: r => if g = f then (g, v) :: r else (g, x) :: putF f v r
theorem lookup_putF (f g : Str) (v : V) : ∀ fs : List (Str × V), (putF f v fs).lookup g = if g = f then some v else fs.lookup g
  | [] => by
    show List.lookup g [(f, v)] = _
    by_cases h : g = f
    · have hb : (g == f) = true := beq_iff_eq.mpr h
      simp only [List.lookup, hb, if_pos h]
    · have hb : (g == f) = false := beq_eq_false_iff_ne.mpr h
      simp only [List.lookup, hb, if_neg h]
  | (k, x) :: r => by
    have ih := lookup_putF f g v r
    rw [show putF f v ((k, x) :: r) = (if k = f then (k, v) :: r else (k, x) :: putF f v r) from rfl]
    by_cases hk : k = f
    · rw [if_pos hk]
      by_cases h : g = k
      · have hb : (g == k) = true := beq_iff_eq.mpr h
        simp only [List.lookup, hb, if_pos (h.trans hk)]
      · have hb : (g == k) = false := beq_eq_false_iff_ne.mpr h
        simp only [List.lookup, hb, if_neg (fun e : g = f => h (e.trans hk.symm))]
    · rw [if_neg hk]
      by_cases h : g = k
      · have hb : (g == k) = true := beq_iff_eq.mpr h
        simp only [List.lookup, hb, if_neg (fun e : g = f => hk (h.symm.trans e))]
      · have hb : (g == k) = false := beq_eq_false_iff_ne.mpr h
        simp only [List.lookup, hb]
        exact ih
theorem keys_putF (f : Str) (v : V) : ∀ fs : List (Str × V), f ∈ (putF f v fs).map (·.1) ∧ ∀ g, g ∈ fs.map (·.1) → g ∈ (putF f v fs).map (·.1)
  | [] => ⟨by simp [putF], fun g h => by simp at h⟩
  | (k, x) :: r => by
    obtain ⟨i1, i2⟩ := keys_putF f v r
    rw [show putF f v ((k, x) :: r) = (if k = f then (k, v) :: r else (k, x) :: putF f v r) from rfl]
    by_cases hk : k = f
    · rw [if_pos hk]
      subst hk
      exact ⟨by simp, fun g h => by simpa using h⟩
    · rw [if_neg hk]
      refine ⟨?_, fun g h => ?_⟩
      · rw [List.map_cons]
        exact List.mem_cons_of_mem _ i1
      · rw [List.map_cons] at h ⊢
        rcases List.mem_cons.mp h with e | e
        · exact List.mem_cons.mpr (.inl e)
        · exact List.mem_cons_of_mem _ (i2 g e)
theorem length_putF (f : Str) (v : V) : ∀ fs : List (Str × V), (putF f v fs).length ≤ fs.length + 1
  | [] => by simp [putF]
  | (k, x) :: r => by
    have ih := length_putF f v r
    rw [show putF f v ((k, x) :: r) = (if k = f then (k, v) :: r else (k, x) :: putF f v r) from rfl]
    by_cases hk : k = f
    · rw [if_pos hk, List.length_cons, List.length_cons]; omega
    · rw [if_neg hk, List.length_cons, List.length_cons]; omega

theorem RelO.some_of {v : V} {o : Option Value} (r : RelO (some v) o) : ∃ u, o = some u ∧ RelV v u := by
  cases o with
  | none => exact (show False from r).elim
  | some u => exact ⟨u, rfl, r⟩
theorem handed_of {v : V} {u : Value} (r : RelV v u) : PySem.W.handedIn u = true := by
  cases v with
  | non => cases (show u = Value.none from r); rfl
  | bl b => cases (show u = Value.bool b from r); rfl
  | int i => obtain ⟨t, e⟩ := (show ∃ t, u = Value.int i t from r); cases e; rfl
  | str x => obtain ⟨t, e⟩ := (show ∃ t, u = Value.str x t from r); cases e; rfl
  | byt b => obtain ⟨t, e⟩ := (show ∃ t, u = Value.bytes b t from r); cases e; rfl
  | flt b => obtain ⟨t, e⟩ := (show ∃ t, u = Value.float b t from r); cases e; rfl
  | ref a => cases (show u = Value.ref a from r); rfl
  | ty n => cases (show u = Value.type n from r); rfl

section
variable {P : Program} {w : World} {H H' : Hp} {h h' : Heap} {a C dx : Addr} {fs fs' : List (Str × V)}
theorem ins_get (hok : HOk P w H h) (e : H a = some (.ins C dx fs)) : ∃ mA, ObjM h a dx C mA ∧ (∀ f, RelO (fs.lookup f) (mA f)) ∧ PySem.Within mA (fs.map (·.1)) ∧ fs.length ≤ 1000 ∧ H dx = some (.own a) := by
  obtain ⟨d, z, ne, ob, mA, n, r, q⟩ := (show ObjOk P w H h a (.ins C dx fs) from hok a _ e)
  exact ⟨mA, ⟨ob, n, ne⟩, r, q, z, d⟩
end

/-! ### what of the text a class must have -/
structure Cls (K : PySem.W.Frag) (C : Addr) : Prop where
  pg : PySem.W.plainGet K C Str.empty = true
  hd : PySem.W.hasDictIn K C = true
  po : PySem.W.plainOver K C = true
  sa : PySem.W.findIn K (.ref C) "__setattr__" = some (some (.builtin "object.__setattr__"))
theorem Cls.get {K : PySem.W.Frag} {C : Addr} (c : Cls K C) (f : Str) : PySem.W.plainGet K C f = true := c.pg
/-- no class of it has the name -/
def NoAttr (K : PySem.W.Frag) (C : Addr) (f : Str) : Prop := PySem.W.findIn K (.ref C) f = some none
theorem NoAttr.taker {K : PySem.W.Frag} {C : Addr} {f : Str} (n : NoAttr K C f) : PySem.W.takerIn K C f = some none := by
  unfold PySem.W.takerIn
  rw [show PySem.W.findIn K (.ref C) f = some none from n]
  rfl

section
variable {X : Cx} {pins : List (Addr × Obj)} {σ : St} {H : Hp} {s : Shared} {a C dx : Addr} {fs : List (Str × V)} {f : Str} {v : V} {A : Around} {E : Value → Shared → Prop}

theorem getattr_ok {b : Bool} {Q : Value → Shared → Prop} (I : Inv X pins σ H s) (e : H a = some (.ins C dx fs)) (c : Cls X.K C) (n : NoAttr X.K C f) (l : fs.lookup f = some v)
    (h : ∀ u s', Inv X pins σ H s' → RelV v u → Q u s') : wpAny (model X.prog X.w) A (getAttr (.ref a) f b) Q E s := by
  obtain ⟨mA, O, r, _, _, _⟩ := ins_get I.hok e
  obtain ⟨u, hu, ru⟩ := RelO.some_of (v := v) (o := mA f) (by rw [← l]; exact r f)
  exact get_map I.kIn O (c.get f) c.hd n hu (handed_of ru) (h u _ (I.tok _) ru)



theorem setattr_ok {y : V} {u : Value} {Q : Unit → Shared → Prop} (I : Inv X pins σ H s) (e : H a = some (.ins C dx fs)) (c : Cls X.K C) (n : NoAttr X.K C f) (hl : fs.length < 1000) (ry : RelV y u)
    (h : ∀ s', Inv X pins σ (upd H a (.ins C dx (putF f y fs))) s' → Q () s') : wpAny (model X.prog X.w) A (setAttr (.ref a) f u) Q E s := by
  obtain ⟨mA, O, r, wi, _, ho⟩ := ins_get I.hok e
  have hz : (fs.map (·.1)).length ≤ sizeLine := by rw [List.length_map, sizeLine_eq]; omega
  refine set_map I.kIn O c.sa c.po n.taker c.hd wi hz fun h' O' sb => h _ ?_
  have hd : ∃ o, h'.get? dx = some o := let ⟨o, _, _, e', _⟩ := O'.ns; ⟨o, e'⟩
  refine I.write (x := a) (e := dx) (by rw [e]; exact True.intro) (.inr ho) (fun b q hb z => (sb.2 b hb).trans z) hd ?_
  refine ⟨by rw [upd_ne O.ne]; exact ho, ?_, O.ne, O'.obj, _, O'.ns, fun g => ?_, fun g hg => ?_⟩
  · have := length_putF f y fs; omega
  · show RelO ((putF f y fs).lookup g) (if g = f then some u else mA g)
    rw [lookup_putF]
    by_cases q : g = f
    · rw [if_pos q, if_pos q]; exact ry
    · rw [if_neg q, if_neg q]; exact r g
  · by_cases q : g = f
    · rw [q]; exact (keys_putF f y fs).1
    · refine (keys_putF f y fs).2 g (wi g fun z => hg ?_)
      show (if g = f then some u else mA g) = none
      rw [if_neg q]; exact z

/-- a new instance, tracked, without attributes -/
theorem Inv.made (I : Inv X pins σ H s) : Inv X pins σ (upd (upd H s.heap.objs.size (.own (s.heap.objs.size + 1))) (s.heap.objs.size + 1) (.ins C s.heap.objs.size []))
    { s with heap := (s.heap.push PySem.W.emptyDict).push (PySem.W.instObj C s.heap.objs.size) } := by
  have e1 : (s.heap.push PySem.W.emptyDict).get? s.heap.objs.size = some PySem.W.emptyDict := Heap.get?_push_size s.heap rfl
  have e2 : ((s.heap.push PySem.W.emptyDict).push (PySem.W.instObj C s.heap.objs.size)).get? (s.heap.objs.size + 1) = some (PySem.W.instObj C s.heap.objs.size) := by
    have := Heap.get?_push_size (s.heap.push PySem.W.emptyDict) (o := PySem.W.instObj C s.heap.objs.size) rfl
    rwa [Heap.size_push] at this
  have e3 : (s.heap.push PySem.W.emptyDict).Ns s.heap.objs.size (fun _ => none) := ⟨PySem.W.emptyDict, #[], _, e1, rfl, (fun e he => absurd he (by simp)), fun _ => rfl⟩
  have I1 := I.laid (a := s.heap.objs.size) (o := .own (s.heap.objs.size + 1)) (h' := s.heap.push PySem.W.emptyDict) (t' := s.toks) (fun b u q => Heap.get?_push_of_some _ q) (Nat.le_refl _) ⟨_, e1⟩
  refine I1.laid (a := s.heap.objs.size + 1) (o := .ins C s.heap.objs.size []) (t' := s.toks) (fun b u q => Heap.get?_push_of_some _ q) (Nat.le_of_eq (Heap.size_push _ _)) ?_
  have ne : s.heap.objs.size ≠ s.heap.objs.size + 1 := Nat.ne_of_lt (Nat.lt_succ_self _)
  refine ⟨by rw [upd_ne ne, upd_same], Nat.zero_le _, ne, e2, fun _ => none, (Heap.Ns1.of_empty e3).at fun o q => Heap.get?_push_of_some _ q, fun _ => True.intro, fun y hy => absurd rfl hy⟩

/-- e.f where nothing but the object is asked: through attributeBase (super) and the last hold -/
theorem attr_of {prog : Program} {w : World} {env : Env} {e : Expr} {f : Str} {pos : Pos} {s : Shared} {Q : Value → Shared → Prop} (hb : attributeBase e f env (eval e env) = eval e env)
    (h : wpAny (model prog w) A (eval e env) (fun o s₁ => wpAny (model prog w) A (getAttr o f true) Q E s₁) E s) : wpAny (model prog w) A (eval (.Attribute e f pos) env) Q E s :=
  Attribute_any_ h (by rw [arm_eval_Attribute, hb])
end

/-! ### readings and rules -/
/-- e.f, an attribute of the instance -/
def tFld (K : PySem.W.Frag) (ta : TE) (f : Str) : TE := fun σ H Q => ta σ H fun x H1 => ∃ a C dx fs v, x = .ref a ∧ H1 a = some (.ins C dx fs) ∧ Cls K C ∧ NoAttr K C f ∧ fs.lookup f = some v ∧ Q v H1
/-- e.f = value -/
def sFld (K : PySem.W.Frag) (ta tv : TE) (f : Str) : TS := fun D σ H => tv σ H fun y H1 => ta σ H1 fun x H2 => ∃ a C dx fs, x = .ref a ∧ H2 a = some (.ins C dx fs) ∧ Cls K C ∧ NoAttr K C f ∧ fs.length < 1000 ∧
  D.nx σ (upd H2 a (.ins C dx (putF f y fs)))

section
variable {X : Cx} {o e value : Expr} {f : Str} {pos pos' tpos : Pos} {ta tv : TE}
theorem pe_fld (he : PE X e ta) (hb : attributeBase e f X.env (eval e X.env) = eval e X.env) : PE X (.Attribute e f pos) (tFld X.K ta f) := by
  intro pins s σ H Q I h
  refine attr_of hb (thn (he pins s σ H _ I h) fun u s1 ⟨x, H1, I1, rx, a, C, dx, fs, v, ex, ea, c, n, l, q⟩ => ?_)
  subst ex
  obtain rfl : u = Value.ref a := rx
  exact getattr_ok I1 ea c n l fun u' s2 I2 ru => ⟨v, H1, I2, ru, q⟩
theorem ps_fld (ha : PE X o ta) (hv : PE X value tv) (hs : swapsWith value (some (.Attribute o f pos')) pos.line X.env = pure false) : PS X (.Assign [.Attribute o f pos'] value pos) (sFld X.K ta tv f) := by
  intro pins s σ H D I h
  refine plainObj_wpAny_Assign_Attribute (thn (hv pins s σ H _ I h) fun u s1 ⟨y, H1, I1, ry, q⟩ => thn (ha pins s1 σ H1 _ I1 q) fun ov s2 ⟨x, H2, I2, rx, a, C, dx, fs, ex, ea, c, n, l, q2⟩ => ?_) hs
  subst ex
  obtain rfl : ov = Value.ref a := rx
  exact setattr_ok I2 ea c n l ry fun s3 I3 => ⟨σ, _, I3, q2⟩

end

/-! ### isinstance -/
end L2

namespace L2
open PySem PySem.Spec PyProof.Rows

/-! ### room -/
structure Room (k : Nat) (A : Around) : Prop where
  hd : A.handled = none
  dp : A.depth + 3 * k + 5 < recursionLimit
  un : A.units + 16 * k + 200 < cLine
theorem Room.mono {j k : Nat} {A : Around} (r : Room k A) (h : j ≤ k) : Room j A := ⟨r.hd, by have := r.dp; omega, by have := r.un; omega⟩
theorem Room.deeper {k : Nat} {A : Around} (r : Room (k + 1) A) (env : Env) : Room k (A.deeper env) :=
  ⟨r.hd, by have := r.dp; show A.depth + 1 + 3 * k + 5 < _; omega, by have := r.un; show A.units + 3 + 16 * k + 200 < _; omega⟩
theorem make_depth {A : Around} {C : Addr} {us : List Value} {kw : List (Str × Value)} : (A.under (.builtin "type.__call__" ⟨.ref C :: us, kw⟩)).depth = A.depth + 1 := by
  first | rfl | simp [Around.under, Code.weight, Code.isCreation, Code.isGuard, Code.isCaller, Code.frames, Code.isFrame, guardIds]
theorem make_units {A : Around} {C : Addr} {us : List Value} {kw : List (Str × Value)} : (A.under (.builtin "type.__call__" ⟨.ref C :: us, kw⟩)).units = A.units + 1 := by
  first | rfl | simp [Around.under, Code.cUnits, Code.frames, Code.isFrame]
theorem Room.make {k : Nat} {A : Around} (r : Room (k + 1) A) (C : Addr) (us : List Value) (kw : List (Str × Value)) : Room k (A.under (.builtin "type.__call__" ⟨.ref C :: us, kw⟩)) :=
  ⟨r.hd, by have := r.dp; rw [make_depth]; omega, by have := r.un; rw [make_units]; omega⟩
theorem Room.depth {k : Nat} {A : Around} (r : Room k A) : A.depth < recursionLimit := by have := r.dp; omega
theorem Room.units {k : Nat} {A : Around} (r : Room k A) : A.units + 64 < cLine := by have := r.un; omega

/-! ### argument lists and displays -/
def tNil : TA := fun _ H Q => Q [] H
def tCons (ta : TE) (tr : TA) : TA := fun σ H Q => ta σ H fun x H1 => tr σ H1 fun xs H2 => Q (x :: xs) H2
section
variable {X : Cx} {e : Expr} {es : List Expr} {te : TE} {t : TA} {pos : Pos}
theorem pa_nil : PA X [] tNil := fun _ _ _ _ H Q I h => Calls.spliced_nil ⟨[], H, I, .nil, h⟩
theorem pa_cons (ha : PE X e te) (hr : PA X es t) (hs : starEach (e :: es) X.env = (false, eval e X.env) :: starEach es X.env := by rfl) : PA X (e :: es) (tCons te t) := by
  intro pos pins s σ H Q I h
  rw [hs]
  show wpAny _ _ (spliced ((false, eval e X.env) :: backTo pos (starEach es X.env))) _ _ s
  refine Calls.spliced_cons (thn (ha pins s σ H _ I h) fun u s1 ⟨x, H1, I1, r1, q1⟩ => ?_)
  exact thn (hr pos pins s1 σ H1 _ I1 q1) fun us s2 ⟨xs, H2, I2, r2, q2⟩ => ⟨x :: xs, H2, I2, .cons r1 r2, q2⟩

/-- a tuple, a list of written items -/
def tTup (t : TA) : TE := fun σ H Q => t σ H fun xs H1 => xs.length ≤ sizeLine ∧ ∀ p, H1 p = none → Q (.ref p) (upd H1 p (.tup xs))
def tLst (t : TA) : TE := fun σ H Q => t σ H fun xs H1 => xs.length ≤ sizeLine ∧ ∀ p, H1 p = none → Q (.ref p) (upd H1 p (.lst xs))
theorem pe_tup {x1} (h : PA X es t) : PE X (.Tuple es x1 pos) (tTup t) := by
  intro pins s σ H Q I hq
  refine wpAny_Tuple_spliced (thn (h pos pins s σ H _ I hq) fun us s1 ⟨xs, H1, I1, r, z, q⟩ => ⟨by rw [← r.length]; exact z, ?_⟩)
  have hf : H1 s1.heap.objs.size = none := I1.hok.fresh (Nat.le_refl _)
  refine ⟨.ref s1.heap.objs.size, upd H1 s1.heap.objs.size (.tup xs), I1.laid (t' := s1.toks) (fun b u e => Heap.get?_push_of_some _ e) (Nat.le_refl _) ?_, rfl, q _ hf⟩
  exact ⟨z, us, r, ⟨_, Heap.get?_push_size _ rfl, rfl, _, rfl⟩⟩
theorem pe_lst (h : PA X es t) : PE X (.List es pos) (tLst t) := by
  intro pins s σ H Q I hq
  refine wpAny_List_spliced (thn (h pos pins s σ H _ I hq) fun us s1 ⟨xs, H1, I1, r, z, q⟩ => ⟨by rw [← r.length]; exact z, ?_⟩)
  have hf : H1 s1.heap.objs.size = none := I1.hok.fresh (Nat.le_refl _)
  refine ⟨.ref s1.heap.objs.size, upd H1 s1.heap.objs.size (.lst xs), I1.laid (t' := s1.toks) (fun b u e => Heap.get?_push_of_some _ e) (Nat.le_refl _) ?_, rfl, q _ hf⟩
  exact ⟨z, us, 0, r, Heap.get?_push_size _ rfl⟩
end

/-! ### what a def promises -/
/-- a def's promise: the bound arguments in the parameters' order, the heap, the wanted end, the wanted exception -/
abbrev Sp := List V → Hp → VK → XK → Prop
/-- how an exception lies behind a call (file 08 gives it): the callers' frames, abstract heap and state ahead of the call, the wish, the exception, the state -/
abbrev CXT := List Env → Hp → Shared → XK → Value → Shared → Prop

/-- the state at a call -/
structure Env0 (P : Program) (w : World) (K : PySem.W.Frag) (mg : Str → Option Value) (base : Heap) (A : Around) (outer : List Env) (s : Shared) (H : Hp) : Prop where
  frames : A.frames = some outer
  mod : Mod K mg base
  bs : ∀ b o, base.get? b = some o → s.heap.get? b = some o ∧ H b = none
  bsz : base.objs.size ≤ s.heap.objs.size
  funs : s.heap.FunFrames base outer
  frf : ∀ b ∈ frs outer, H b = none
  hok : HOk P w H s.heap
  bare : AllBare s.gens
/-- a call's end -/
def CE (outer : List Env) (P : Program) (w : World) (H : Hp) (s : Shared) (Q : VK) (u : Value) (s' : Shared) : Prop :=
  ∃ v H', s'.os = s.os ∧ AllBare s'.gens ∧ Un (frs outer) [] H H' s.heap s'.heap ∧ HOk P w H' s'.heap ∧ RelV v u ∧ Q v H'
def CR (CX : CXT) (outer : List Env) (P : Program) (w : World) (H : Hp) (s : Shared) (Q : VK) (E : XK) (r : Result) (s' : Shared) : Prop :=
  match r with
  | .ok (.ret u) => CE outer P w H s Q u s'
  | .ok _ => False
  | .error e => CX outer H s E e s'
structure FnOk (P : Program) (w : World) (K : PySem.W.Frag) (mg : Str → Option Value) (base : Heap) (CX : CXT) (k : Nat) (f : Addr) (fd : FuncData) (ps : List Str) (sp : Sp) : Prop where
  len : ∀ vs H Q E, sp vs H Q E → vs.length = ps.length
  run : ∀ (A : Around) (outer : List Env) (s : Shared) (H : Hp) (args : Args) (us : List Value) (vs : List V) (Q : VK) (E : XK), Room k A → Env0 P w K mg base A outer s H → BindsTo s fd args (ps.zip us) → Vals vs us → sp vs H Q E →
    codeAny (model P w) A (.call (.ref f) args) (CR CX outer P w H s Q E) s

theorem Env0.make {P : Program} {w : World} {K : PySem.W.Frag} {mg : Str → Option Value} {base : Heap} {A : Around} {outer : List Env} {s : Shared} {H : Hp} (e : Env0 P w K mg base A outer s H) (C : Addr) (us : List Value) (kw : List (Str × Value)) :
    Env0 P w K mg base (A.under (.builtin "type.__call__" ⟨.ref C :: us, kw⟩)) outer s H := ⟨by first | exact e.frames | (simpa [Around.under, Code.envs, Code.isFrame, pushEnvs] using e.frames), e.mod, e.bs, e.bsz, e.funs, e.frf, e.hok, e.bare⟩

section
variable {X : Cx} {pins : List (Addr × Obj)} {σ : St} {H : Hp} {s s' : Shared}
/-- from a body: what a callee wants -/
theorem Inv.env0 (I : Inv X pins σ H s) : Env0 X.prog X.w X.K X.mg X.base X.A X.stack s H :=
  ⟨I.ok.frames, I.ok.mod, I.bs, Nat.le_trans I.ok.bsz I.sz, I.stack, I.stkFree, I.hok, I.bare⟩
/-- behind a call -/
theorem Inv.after {Q : VK} {u : Value} (I : Inv X pins σ H s) (h : CE X.stack X.prog X.w H s Q u s') : EP X pins σ Q u s' := by
  obtain ⟨v, H', os, bare, un, hok, r, q⟩ := h
  obtain ⟨hh, g, d, t, os'⟩ := s'
  obtain rfl : os' = s.os := os
  exact ⟨v, H', I.call (h' := hh) (g' := g) (d' := d) (t' := t) (ch := []) un hok bare (fun b z => absurd z (by simp)), r, q⟩
end

/-! ### calls -/
/-- f(..): the written arguments, then the defaults dvs; E: what is wanted of an exception -/
def tCall (sp : Sp) (dvs : List V) (E : XK) (t : TA) : TE := fun σ H Q => t σ H fun vs H1 => sp (vs ++ dvs) H1 Q E
/-- C(..): a new instance and its dict, then __init__ -/
def tMake (C : Addr) (sp : Sp) (dvs : List V) (E : XK) (t : TA) : TE := fun σ H Q => t σ H fun vs H1 => ∀ x dx, H1 x = none → H1 dx = none → dx ≠ x →
  sp (.ref x :: (vs ++ dvs)) (upd (upd H1 dx (.own x)) x (.ins C dx [])) (fun v H2 => v = .non ∧ Q (.ref x) H2) E

/-- how the parameters are bound: us the positional arguments, kw the keywords' values by name, ds the defaults that fill up -/
def Binds (K : PySem.W.Frag) (fd : FuncData) (ps : List Str) (ds : List Value) : Prop :=
  ∀ (s : Shared) (us : List Value), K.In s.heap → (us ++ ds).length = ps.length → BindsTo s fd ⟨us, []⟩ (ps.zip (us ++ ds))
/-- every parameter is given -/
theorem Binds.all {K : PySem.W.Frag} {fd : FuncData} {ps : List Str} (h : ∀ us : List Value, us.length = ps.length → bindArgs fd ⟨us, []⟩ = pure (ps.zip us)) : Binds K fd ps [] := fun s us _ hl => by
  rw [List.append_nil] at hl ⊢
  exact .of_eq (h us hl)

/-- an exception of a callee reaches what this body wants of exceptions -/
def Passes (CX : CXT) (X : Cx) (E : XK) : Prop := ∀ (pins : List (Addr × Obj)) (σ : St) (H : Hp) (s : Shared) (e : Value) (s' : Shared), Inv X pins σ H s → CX X.stack H s E e s' → X.xe e s'

section
variable {X : Cx} {CX : CXT} {k : Nat} {f C : Addr} {fd : FuncData} {ps : List Str} {sp : Sp} {dvs : List V} {ds : List Value} {E : XK} {x m : Str} {p pos apos : Pos} {e o : Expr} {es : List Expr} {ta : TE} {t : TA}

/-- the callee runs -/
theorem run_fn {pins : List (Addr × Obj)} {σ : St} {H : Hp} {s : Shared} {Q : VK} {us : List Value} {vs : List V} (F : FnOk X.prog X.w X.K X.mg X.base CX k f fd ps sp) (hr : Room k X.A) (hb : Binds X.K fd ps ds) (hd : Vals dvs ds) (hx : Passes CX X E)
    (I : Inv X pins σ H s) (r : Vals vs us) (h : sp (vs ++ dvs) H Q E) : wpAny (model X.prog X.w) X.A (call (.ref f) us) (EP X pins σ Q) X.xe s := by
  have r2 : Vals (vs ++ dvs) (us ++ ds) := r.append hd
  have hl : (us ++ ds).length = ps.length := by rw [← r2.length]; exact F.len _ _ _ _ h
  refine wpAny_call (codeAny_mono (F.run X.A X.stack s H ⟨us, []⟩ (us ++ ds) (vs ++ dvs) Q E hr I.env0 (hb s us I.kIn hl) r2 h) fun r s' hq => ?_)
  cases r with
  | error e => exact hx pins σ H s e s' I hq
  | ok fl =>
    cases fl with
    | ret u => exact I.after hq
    | next => exact False.elim hq
    | brk => exact False.elim hq
    | cont => exact False.elim hq

theorem pe_call (F : FnOk X.prog X.w X.K X.mg X.base CX k f fd ps sp) (hr : Room k X.A) (hg : Gl X x) (hm : X.mg x = some (.ref f)) (hk : PySem.W.keepIn X.K (.ref f) = true) (hb : Binds X.K fd ps ds) (hd : Vals dvs ds) (hx : Passes CX X E)
    (ha : PA X (e :: es) t) (hdb : (x == ("__debug__" : Str)) = false := by decide) (he : starEach (e :: es) X.env = (false, eval e X.env) :: starEach es X.env := by rfl) (hpl : (backTo pos (starEach es X.env)).any (·.1) = false := by rfl) :
    PE X (.Call (.Name x p) (e :: es) [] pos) (tCall sp dvs E t) := by
  intro pins s σ H Q I h
  refine wpAny_Call_Name_kw (ld_glob I hg hm ?_ hdb)
  refine PySem.W.callWith_K (h₀ := X.base) I.ok.mod.kin hk (thn (ha pos pins s σ H _ I h) fun us s1 ⟨vs, H1, I1, r, q⟩ => ⟨I1.kIn, ?_⟩) he hpl
  exact run_fn F hr hb hd hx I1 r q


/-- what a class must have to be made -/
structure Mk (K : PySem.W.Frag) (C f : Addr) : Prop where
  makes : PySem.W.makesIn K C = true
  init : PySem.W.findIn K (.ref C) "__init__" = some (some (.ref f))
  fn : PySem.W.isFn K (.ref f) = true
  kp : PySem.W.keepIn K (.ref C) = true

theorem run_make {pins : List (Addr × Obj)} {σ : St} {H : Hp} {s : Shared} {Q : VK} {us : List Value} {vs : List V} (M : Mk X.K C f) (F : FnOk X.prog X.w X.K X.mg X.base CX k f fd ps sp) (hr : Room (k + 1) X.A) (hb : Binds X.K fd ps ds) (hd : Vals dvs ds)
    (hx : Passes CX X E) (I : Inv X pins σ H s) (r : Vals vs us)
    (h : ∀ x dx, H x = none → H dx = none → dx ≠ x → sp (.ref x :: (vs ++ dvs)) (upd (upd H dx (.own x)) x (.ins C dx [])) (fun v H2 => v = .non ∧ Q (.ref x) H2) E) :
    wpAny (model X.prog X.w) X.A (call (.ref C) us) (EP X pins σ Q) X.xe s := by
  have hq := h (s.heap.objs.size + 1) s.heap.objs.size (I.hok.fresh (Nat.le_succ _)) (I.hok.fresh (Nat.le_refl _)) (Nat.ne_of_lt (Nat.lt_succ_self _))
  have I2 := Inv.made (C := C) I
  have r2 : Vals (V.ref (s.heap.objs.size + 1) :: (vs ++ dvs)) (Value.ref (s.heap.objs.size + 1) :: (us ++ ds)) := .cons rfl (r.append hd)
  have hl : (Value.ref (s.heap.objs.size + 1) :: us ++ ds).length = ps.length := by
    have e := r2.length
    rw [F.len _ _ _ _ hq] at e
    exact e.symm
  refine wpAny_call (make_map (f := f) I.kIn M.makes M.init (beq_iff_eq.mp M.fn) (codeAny_mono (F.run _ X.stack _ _ ⟨Value.ref (s.heap.objs.size + 1) :: us, []⟩ (Value.ref (s.heap.objs.size + 1) :: (us ++ ds)) _ _ E (hr.make C us [])
    (I2.env0.make C us []) (hb _ (Value.ref (s.heap.objs.size + 1) :: us) I2.kIn hl) r2 hq) fun r s' hq' => ?_))
  cases r with
  | error e => exact hx pins σ _ _ e s' I2 hq'
  | ok fl =>
    cases fl with
    | ret u =>
      obtain ⟨v, H', I3, rv, ev, q3⟩ := I2.after hq'
      subst ev
      exact ⟨rv, ⟨V.ref (s.heap.objs.size + 1), H', I3, rfl, q3⟩⟩
    | next => exact False.elim hq'
    | brk => exact False.elim hq'
    | cont => exact False.elim hq'
theorem pe_make (M : Mk X.K C f) (F : FnOk X.prog X.w X.K X.mg X.base CX k f fd ps sp) (hr : Room (k + 1) X.A) (hg : Gl X x) (hm : X.mg x = some (.ref C)) (hb : Binds X.K fd ps ds) (hd : Vals dvs ds) (hx : Passes CX X E)
    (ha : PA X (e :: es) t) (hdb : (x == ("__debug__" : Str)) = false := by decide) (he : starEach (e :: es) X.env = (false, eval e X.env) :: starEach es X.env := by rfl) (hpl : (backTo pos (starEach es X.env)).any (·.1) = false := by rfl) :
    PE X (.Call (.Name x p) (e :: es) [] pos) (tMake C sp dvs E t) := by
  intro pins s σ H Q I h
  refine wpAny_Call_Name_kw (ld_glob I hg hm ?_ hdb)
  refine PySem.W.callWith_K (h₀ := X.base) I.ok.mod.kin M.kp (thn (ha pos pins s σ H _ I h) fun us s1 ⟨vs, H1, I1, r, q⟩ => ⟨I1.kIn, ?_⟩) he hpl
  exact run_make M F hr hb hd hx I1 r q
theorem pe_make0 (M : Mk X.K C f) (F : FnOk X.prog X.w X.K X.mg X.base CX k f fd ps sp) (hr : Room (k + 1) X.A) (hg : Gl X x) (hm : X.mg x = some (.ref C)) (hb : Binds X.K fd ps ds) (hd : Vals dvs ds) (hx : Passes CX X E)
    (hdb : (x == ("__debug__" : Str)) = false := by decide) : PE X (.Call (.Name x p) [] [] pos) (tMake C sp dvs E tNil) := by
  intro pins s σ H Q I h
  refine wpAny_Call_Name_kw (ld_glob I hg hm ?_ hdb)
  exact PySem.W.callWith_K0 I.kIn M.kp (run_make (us := []) M F hr hb hd hx I .nil h)
end

/-! ### keywords -/

/-! ### a def's body keeps its promise -/
/-- names: the parameters first -/
structure FnScope (N P : List Str) (sc : Scope) : Prop where
  kind : sc.kind = .function
  co : sc.isCoroutine = false
  gen : sc.isGenerator = false
  nd : N.Nodup
  pre : N.take P.length = P
  par : ∀ x ∈ P, sc.names.lookup x = some .local ∨ sc.names.lookup x = some .cell
  nofree : ∀ y ∈ sc.names, y.2 ≠ .free

theorem bindL_out {kindOf : Str → Option NameKind} {x : Str} : ∀ {binds : List (Str × Value)} {m : Str → Option Value}, (∀ v, (x, v) ∉ binds) → bindL kindOf binds m x = m x
  | [], _, _ => rfl
  | (n, v) :: r, m, h => by
    unfold bindL
    rw [bindL_out fun w hw => h w (List.mem_cons_of_mem _ hw)]
    split
    · have : x ≠ n := by rintro rfl; exact h v List.mem_cons_self
      simp [this]
    · rfl
theorem bindC_out {kindOf : Str → Option NameKind} {x : Str} : ∀ {binds : List (Str × Value)} {m : Str → Option Value}, (∀ v, (x, v) ∉ binds) → bindC kindOf binds m x = m x
  | [], _, _ => rfl
  | (n, v) :: r, m, h => by
    unfold bindC
    rw [bindC_out fun w hw => h w (List.mem_cons_of_mem _ hw)]
    split
    · rfl
    · have : x ≠ n := by rintro rfl; exact h v List.mem_cons_self
      simp [this]
theorem bindL_get {kindOf : Str → Option NameKind} {x : Str} {v : Value} : ∀ {P : List Str} {vs : List Value} {i : Nat} {m : Str → Option Value}, P.Nodup → P[i]? = some x → vs[i]? = some v → kindOf x = some .local →
    bindL kindOf (P.zip vs) m x = some v
  | [], _, _, _, _, h, _, _ => by simp at h
  | _ :: _, [], _, _, _, _, h, _ => by simp at h
  | p :: P, w :: vs, 0, m, nd, h1, h2, hk => by
    simp at h1 h2; subst h1; subst h2
    show bindL kindOf ((p, w) :: P.zip vs) m p = _
    unfold bindL
    rw [bindL_out fun v hv => (List.nodup_cons.mp nd).1 (List.of_mem_zip hv).1, if_pos hk]
    simp
  | p :: P, w :: vs, i + 1, m, nd, h1, h2, hk => by
    show bindL kindOf ((p, w) :: P.zip vs) m x = _
    unfold bindL
    exact bindL_get (i := i) (List.nodup_cons.mp nd).2 (by simpa using h1) (by simpa using h2) hk
theorem bindC_get {kindOf : Str → Option NameKind} {x : Str} {v : Value} : ∀ {P : List Str} {vs : List Value} {i : Nat} {m : Str → Option Value}, P.Nodup → P[i]? = some x → vs[i]? = some v → kindOf x ≠ some .local →
    bindC kindOf (P.zip vs) m x = some v
  | [], _, _, _, _, h, _, _ => by simp at h
  | _ :: _, [], _, _, _, _, h, _ => by simp at h
  | p :: P, w :: vs, 0, m, nd, h1, h2, hk => by
    simp at h1 h2; subst h1; subst h2
    show bindC kindOf ((p, w) :: P.zip vs) m p = _
    unfold bindC
    rw [bindC_out fun v hv => (List.nodup_cons.mp nd).1 (List.of_mem_zip hv).1, if_neg hk]
    simp
  | p :: P, w :: vs, i + 1, m, nd, h1, h2, hk => by
    show bindC kindOf ((p, w) :: P.zip vs) m x = _
    unfold bindC
    exact bindC_get (i := i) (List.nodup_cons.mp nd).2 (by simpa using h1) (by simpa using h2) hk

/-- the names' values at the entry -/
def start (N : List Str) (vs : List V) : St := vs.map some ++ List.replicate (N.length - vs.length) none

/-- the context of a def's body, at its entry; an exception leaves the frame, then lies as CX says -/
def cxOf (CX : CXT) (P : Program) (w : World) (K : PySem.W.Frag) (mg : Str → Option Value) (base : Heap) (N : List Str) (qual : Str) (scope : Scope) (f : Addr) (cd : Value) (A : Around) (outer : List Env) (s : Shared) (H : Hp) (E : XK) : Cx where
  prog := P
  w := w
  K := K
  mg := mg
  base := base
  A := A.deeper (envOfC qual scope s.heap.objs.size f cd)
  N := N
  s₀ := s
  H₀ := H
  env := envOfC qual scope s.heap.objs.size f cd
  outer := outer
  stack := envOfC qual scope s.heap.objs.size f cd :: outer
  ex := []
  calm := true
  fn := fun _ => true
  pn := []
  xe := fun e s' => wpAny (model P w) (A.deeper (envOfC qual scope s.heap.objs.size f cd)) (leaving (envOfC qual scope s.heap.objs.size f cd) e) (fun _ s'' => CX outer H s E e s'') (fun e' s'' => CX outer H s E e' s'') s'

theorem cell_has {sc : Scope} {n : Nat} {x : Str} (h : sc.names.lookup x = some .cell) : ∃ c, (cellsFrom n sc.names []).lookup x = some c := by
  have q := PySem.W.cellsFrom_some sc.names n [] (.inl h)
  exact Option.isSome_iff_exists.mp q

theorem inv_start {CX : CXT} {P : Program} {w : World} {K : PySem.W.Frag} {mg : Str → Option Value} {base : Heap} {N ps : List Str} {qual : Str} {scope : Scope} {f : Addr} {cd : Value} {A : Around} {outer : List Env} {s s1 : Shared} {H : Hp} {E : XK} {us : List Value} {vs : List V}
    (S : FnScope N ps scope) (hd : A.handled = none) (e0 : Env0 P w K mg base A outer s H) (hl : vs.length = ps.length) (r : Vals vs us)
    (x : InCallC s s.heap.objs.size (bindL (envOfC qual scope s.heap.objs.size f cd).kindOf (ps.zip us) fun _ => none) (cellsFrom (s.heap.objs.size + 1) scope.names []) (bindC (envOfC qual scope s.heap.objs.size f cd).kindOf (ps.zip us) fun _ => none) s1) :
    Inv (cxOf CX P w K mg base N qual scope f cd A outer s H E) [] (start N vs) H s1 := by
  have hpl : ps.length ≤ N.length := by have := congrArg List.length S.pre; rw [List.length_take] at this; omega
  obtain ⟨h1, tk, rfl, hk⟩ := x.done
  have noA : ∀ b : Addr, b ∉ (cxOf CX P w K mg base N qual scope f cd A outer s H E).ex := fun b z => absurd (show b ∈ ([] : List Addr) from z) (by simp)
  refine ⟨⟨e0.mod, S.kind, rfl, rfl, Nat.le_refl _, fun y z c h1 h2 => ?_, fun y hy => ?_, fun y c _ h => ?_, fun _ => hd, Around.frames_deeper e0.frames, .inr ⟨rfl, rfl⟩, fun b z => absurd z (noA b), e0.bs, e0.bsz, fun b _ _ => noA b, fun b z => absurd z (noA b), e0.funs, e0.frf⟩,
    rfl, e0.bare, Un.kept hk, ⟨_, x.toInCall.ns, fun i y v h1 h2 h3 => ?_⟩, fun y c h => ⟨_, x.cell y c h⟩, e0.hok.fresh (Nat.le_refl _), fun y c h => ?_, fun p hp => absurd (show p ∈ ([] : List (Addr × Obj)) from hp) (by simp), e0.hok.kept hk, ?_⟩
  · exact name_of_addr x.apart (PySem.mem_of_lookup h1) (PySem.mem_of_lookup h2)
  · have hy : scope.names.lookup y = some .cell ∨ scope.names.lookup y = some .free := hy
    rcases hy with hy | hy
    · exact cell_has hy
    · exact absurd rfl (S.nofree _ (PySem.mem_of_lookup hy))
  · exact Nat.le_of_lt (x.above y c (PySem.mem_of_lookup h))
  · have hi : i < vs.length := by
      unfold start at h2
      by_cases hi : i < vs.length
      · exact hi
      · rw [List.getElem?_append_right (by simpa using hi)] at h2
        rw [List.getElem?_replicate] at h2
        split at h2 <;> cases h2
    have ha : vs[i]? = some v := by
      unfold start at h2
      rw [List.getElem?_append_left (by simpa using hi), List.getElem?_map] at h2
      cases e : vs[i]? with
      | none => rw [e] at h2; cases h2
      | some a => rw [e] at h2; cases h2; rfl
    obtain ⟨u, hu, rv⟩ := r.get ha
    have hp : ps[i]? = some y := by
      rw [← S.pre, List.getElem?_take_of_lt (by omega)]; exact h1
    have ndP : ps.Nodup := by rw [← S.pre]; exact S.nd.sublist (List.take_sublist _ _)
    refine ⟨u, rv, ?_⟩
    rcases S.par y (List.mem_of_getElem? hp) with k | k
    · exact .inl ⟨k, bindL_get ndP hp hu k⟩
    · obtain ⟨c, e⟩ := cell_has (n := s.heap.objs.size + 1) k
      refine .inr ⟨.inl k, c, e, ?_⟩
      have q := x.cell y c e
      rw [bindC_get ndP hp hu (by show scope.names.lookup y ≠ _; rw [k]; decide)] at q
      exact q
  · exact e0.hok.fresh (Nat.le_of_lt (x.above y c (PySem.mem_of_lookup h)))
  · unfold start
    show _ = N.length
    rw [List.length_append, List.length_map, List.length_replicate]
    omega

/-- THE RULE: a def (or a method) of the text, by its body. The body's reading t is chosen for each entry; it is run at the parameters' values -/
theorem fn_of {CX : CXT} {P : Program} {w : World} {K : PySem.W.Frag} {mg : Str → Option Value} {base : Heap} {k : Nat} {f : Addr} {name qual : Str} {params : Arguments} {body : List Stmt} {scope : Scope} {dV kV doc pm cdv ct oc : Value} {an od : Option Addr}
    {osl : Array (Option Value)} {N ps : List Str} {sp : Sp} (lk : K.lookup f = some ⟨oc, od, .func (PySem.W.fnOf name qual params body scope dV kV doc pm an cdv ct), osl⟩) (hcd : PySem.W.codeIn K cdv qual = true) (S : FnScope N ps scope)
    (len : ∀ vs H Q E, sp vs H Q E → vs.length = ps.length)
    (hbody : ∀ (A : Around) (outer : List Env) (s : Shared) (H : Hp) (vs : List V) (Q : VK) (E : XK), Room k (A.deeper (envOfC qual scope s.heap.objs.size f cdv)) → sp vs H Q E →
      ∃ t, PSs (cxOf CX P w K mg base N qual scope f cdv A outer s H E) body t ∧ t { nx := fun _ H' => Q .non H', rt := Q } (start N vs) H) :
    FnOk P w K mg base CX (k + 1) f (PySem.W.fnOf name qual params body scope dV kV doc pm an cdv ct) ps sp := by
  refine ⟨len, fun A outer s H args us vs Q E hr e0 hb r hsp => ?_⟩
  have hl := len _ _ _ _ hsp
  have KX : K.In s.heap := e0.mod.kin.keeps fun b o e => (e0.bs b o e).1
  have lim : s.heap.NoLimit := e0.mod.nolimit.keeps fun b o e => (e0.bs b o e).1
  have hkind : ∀ y ∈ ps.zip us, scope.names.lookup y.1 = some .local ∨ (scope.names.lookup y.1 = some .cell ∧ ((cellsFrom (s.heap.objs.size + 1) scope.names []).lookup y.1).isSome = true) := fun ⟨n, v⟩ hy => by
    rcases S.par n (List.of_mem_zip hy).1 with q | q
    · exact .inl q
    · exact .inr ⟨q, PySem.W.cellsFrom_some _ _ _ (.inl q)⟩
  refine codeAny_call_function hr.depth (KX _ _ lk) rfl S.co S.gen rfl (PySem.W.codeRec_of KX hcd) (hb _ _ _ _ ?_)
  refine wpAny_newFunctionEnv_cells S.kind hkind fun env he s1 x => ?_
  subst he
  refine ⟨lim.keeps x.toInCall.keep, codeAny_func ?_⟩
  obtain ⟨t, ht, hq⟩ := hbody A outer s H vs Q E (hr.deeper _) hsp
  have I : Inv (cxOf CX P w K mg base N qual scope f cdv A outer s H E) [] (start N vs) H s1 := inv_start S hr.hd e0 hl r x
  refine wpAny_mono (ht [] s1 (start N vs) H _ I hq) (fun fl s' hs => ?_) fun e s' hs => hs
  have fin : ∀ {σ' : St} {H' : Hp} {v : V} {u : Value}, Inv (cxOf CX P w K mg base N qual scope f cdv A outer s H E) [] σ' H' s' → RelV v u → Q v H' → CE outer P w H s Q u s' :=
    fun {σ' H' v u} J rv q => ⟨v, H', J.os, J.bare, J.base, J.hok, rv, q⟩
  cases fl with
  | ret u =>
    obtain ⟨v, σ', H', J, rv, q⟩ := hs
    exact fin J rv q
  | next =>
    obtain ⟨σ', H', J, q⟩ := hs
    exact fin (v := V.non) (u := Value.none) J rfl q
  | brk =>
    obtain ⟨_, _, _, q⟩ := hs
    exact False.elim q
  | cont =>
    obtain ⟨_, _, _, q⟩ := hs
    exact False.elim q
end L2

namespace L2
open PySem PySem.Spec PyProof.Rows
section
variable {X : Cx} {x : Str} {p pos : Pos} {e : Expr} {es : List Expr} {t : TA} {id T : String} {r : List V → Hp → VK → Prop}

def tCB (r : List V → Hp → VK → Prop) (t : TA) : TE := fun σ H Q => t σ H fun vs H1 => r vs H1 Q
/-- f(e, ..), f a built-in function -/
theorem pe_callB (hc : CallR X (.builtin id) r) (hg : Gl X x) (hm : X.mg x = none) (hv : bootBuiltins x = some (.builtin id)) (ha : PA X (e :: es) t) (hn : x ≠ "__name__" := by decide) (hdb : (x == ("__debug__" : Str)) = false := by decide)
    (he : starEach (e :: es) X.env = (false, eval e X.env) :: starEach es X.env := by rfl) (hpl : (backTo pos (starEach es X.env)).any (·.1) = false := by rfl) : PE X (.Call (.Name x p) (e :: es) [] pos) (tCB r t) := by
  intro pins s σ H Q I h
  refine wpAny_Call_Name_kw (ld_blt I hg hm hv ?_ hn hdb)
  exact PyProof.Rows.callWith_builtin1 (thn (ha pos pins s σ H _ I h) fun us s1 ⟨vs, H1, I1, r1, q1⟩ => hc pins s1 σ H1 vs us Q I1 r1 q1) he hpl
end
end L2

namespace HT
open PySem PyProof.Rows



section
open PySem.SeqAt
open PySem.AutoSeq1 (wpAny_loadPart')
open PySem.MeetsSeq PySem.MeetsSeq2 PySem.MeetsSeq3

end

section
variable {prog : Program} {w : World} {A : Around} {E : Value → Shared → Prop} {s : Shared}



/-! ### t[a:b], not the whole -/
/-- a slice's bound as a place among n (d where it is left out) -/
def sIx (n d : Nat) : Option Int → Nat
  | none => d
  | some v => if v < 0 then (v + (n : Int)).toNat else min v.toNat n
theorem sIx_nat (n d k : Nat) : sIx n d (some (k : Int)) = min k n := by
  show (if (k : Int) < 0 then ((k : Int) + (n : Int)).toNat else min (k : Int).toNat n) = min k n
  rw [if_neg (by omega), Int.toNat_natCast]

end
end HT

namespace L2
open PySem PySem.Spec PyProof.Rows

/-! ### the parts of a slice -/
abbrev TO := St → Hp → (Option Int → Hp → Prop) → Prop
/-- a slice's part (left out, or an int) -/
def PO (X : Cx) (e : Option Expr) (t : TO) : Prop :=
  ∀ (pins : List (Addr × Obj)) (s : Shared) (σ : St) (H : Hp) (Q : Option Int → Hp → Prop), Inv X pins σ H s → t σ H Q →
    wpAny (model X.prog X.w) X.A (evalPart e X.env) (fun u s' => ∃ o H', Inv X pins σ H' s' ∧ IsPart u o ∧ Q o H') X.xe s
def tPart (t : TE) : TO := fun σ H Q => t σ H fun x H1 => ∃ i, x = .int i ∧ Q (some i) H1


section
variable {X : Cx} {e : Expr} {te : TE} {lo hi : Option Expr} {tl th : TO} {pos p2 : Pos}

theorem po_some (h : PE X e te) : PO X (some e) (tPart te) := by
  intro pins s σ H Q I hw
  rw [evalPart_some]
  refine thn (h pins s σ H _ I hw) fun u s1 ⟨x, H1, I1, r1, q1⟩ => ?_
  obtain ⟨i, rfl, q⟩ := q1
  obtain ⟨t, rfl⟩ := r1
  exact ⟨some i, H1, I1, .int i t, q⟩

/-- what a slice of a value is, by values: the slice object stands at sl -/
def SlR (X : Cx) (r : V → Option Int → Option Int → Hp → VK → Prop) : Prop :=
  ∀ (pins : List (Addr × Obj)) (s : Shared) (σ : St) (H : Hp) (x : V) (v vl vu : Value) (lo hi : Option Int) (sl : Addr) (Q : VK), Inv X pins σ H s → RelV x v → s.heap.IsSliceOf sl vl vu .none → IsPart vl lo → IsPart vu hi → r x lo hi H Q →
    ∃ T id, typeLookup (.type T) "__getitem__" = pure (some (.builtin id)) ∧ s.TypeIs v T ∧ wpAny (model X.prog X.w) X.A (getItem v (.ref sl)) (EP X pins σ Q) X.xe s
def tSl (r : V → Option Int → Option Int → Hp → VK → Prop) (te : TE) (tl th : TO) : TE := fun σ H Q => te σ H fun x H1 => tl σ H1 fun l H2 => th σ H2 fun u H3 => r x l u H3 Q
/-- a[lo:hi], any a -/
theorem pe_slice {r : V → Option Int → Option Int → Hp → VK → Prop} (hr : SlR X r) (he : PE X e te) (hl : PO X lo tl) (hu : PO X hi th) : PE X (.Subscript e (.Slice lo hi none p2) pos) (tSl r te tl th) := by
  intro pins s σ H Q I h
  refine Subscript_ (thn (he pins s σ H _ I h) fun v s1 ⟨x, H1, I1, r1, q1⟩ => ?_)
  refine wpAny_Slice (thn (hl pins s1 σ H1 _ I1 q1) fun vl s2 ⟨l, H2, I2, pl, q2⟩ => thn (hu pins s2 σ H2 _ I2 q2) fun vu s3 ⟨u, H3, I3, pu, q3⟩ => ?_)
  rw [evalPart_none]
  refine wpAny_pure ?_
  have I4 : Inv X pins σ H3 { s3 with heap := s3.heap.push { cls := .type "slice", data := .fields #[vl, vu, .none] } } := I3.kept (t' := s3.toks) fun b ob q => Heap.get?_push_of_some _ q
  obtain ⟨T, id, hT, ht, hg⟩ := hr pins { s3 with heap := s3.heap.push { cls := .type "slice", data := .fields #[vl, vu, .none] } } σ H3 x v vl vu l u s3.heap.objs.size Q I4 r1 (Heap.IsSliceOf.new ..) pl pu q3
  show wpAny (model X.prog X.w) X.A (subscriptTail e (.Slice lo hi none p2) v (.ref s3.heap.objs.size)) (EP X pins σ Q) X.xe { s3 with heap := s3.heap.push { cls := .type "slice", data := .fields #[vl, vu, .none] } }
  exact tail_any (ops := [.ref s3.heap.objs.size, v]) ht hT hg (by with_unfolding_all rfl)

/-- the items of xs[lo:hi] -/
def cutV (xs : List V) (lo hi : Option Int) : List V := (xs.drop (HT.sIx xs.length 0 lo)).take (HT.sIx xs.length xs.length hi - HT.sIx xs.length 0 lo)
theorem cutV_length (xs : List V) (lo hi : Option Int) : (cutV xs lo hi).length ≤ xs.length := by
  unfold cutV
  rw [List.length_take, List.length_drop]
  omega

/-! ### t < u, t + u -/
end
end L2

namespace L2
open PySem PySem.Spec PyProof.Rows

/-! ### places -/
/-- the place that an index of any sign means -/
def ixN (n : Nat) (i : Int) : Option Nat := if 0 ≤ i then (if i < n then some i.toNat else none) else if -(n : Int) ≤ i then some (i + n).toNat else none
def atI {α : Type} (xs : List α) (i : Int) : Option α := (ixN xs.length i).bind fun j => xs[j]?
theorem ixN_seq {n : Nat} {i : Int} {j : Nat} (h : ixN n i = some j) : seqIndex? i n = some j ∧ j < n ∧ -(n : Int) ≤ i ∧ i < n := by
  unfold ixN at h
  by_cases h0 : 0 ≤ i
  · rw [if_pos h0] at h
    by_cases h1 : i < n
    · rw [if_pos h1] at h
      have e : i.toNat = j := Option.some.inj h
      exact ⟨by rw [seqIndex_of h0 h1, e], by omega, by omega, h1⟩
    · rw [if_neg h1] at h; cases h
  · rw [if_neg h0] at h
    by_cases h1 : -(n : Int) ≤ i
    · rw [if_pos h1] at h
      have e : (i + n).toNat = j := Option.some.inj h
      exact ⟨by rw [seqIndex_neg (by omega) h1, e], by omega, h1, by omega⟩
    · rw [if_neg h1] at h; cases h
theorem atI_get {α : Type} {xs : List α} {i : Int} {v : α} (h : atI xs i = some v) : ∃ j, seqIndex? i xs.length = some j ∧ xs[j]? = some v ∧ j < xs.length ∧ -(xs.length : Int) ≤ i ∧ i < xs.length := by
  unfold atI at h
  cases e : ixN xs.length i with
  | none => rw [e] at h; cases h
  | some j =>
    rw [e] at h
    obtain ⟨h1, h2, h3, h4⟩ := ixN_seq e
    exact ⟨j, h1, h, h2, h3, h4⟩
theorem atI_nat {α : Type} {xs : List α} {j : Nat} {v : α} (h : xs[j]? = some v) : atI xs (j : Int) = some v := by
  have hj : j < xs.length := (List.getElem?_eq_some_iff.mp h).1
  have e : ixN xs.length (j : Int) = some j := by
    unfold ixN
    rw [if_pos (by omega), if_pos (by omega)]; simp
  unfold atI; rw [e]; exact h

/-! ### what may be subscripted -/
/-- what stands as an index of a plain subscript -/
def PlainIx (b : Expr) : Prop := ∀ o i, subscripted b false o i = operate [o, i] (getItem o i)
/-- a subscript by values -/
def IxR (X : Cx) (r : R2) : Prop :=
  ∀ (value slice : Expr) (pins : List (Addr × Obj)) (s : Shared) (σ : St) (H : Hp) (x y : V) (v u : Value) (Q : VK), Inv X pins σ H s → RelV x v → RelV y u → r x y H Q →
    subscripted slice false v u = operate [v, u] (getItem v u) → wpAny (model X.prog X.w) X.A (subscriptTail value slice v u) (EP X pins σ Q) X.xe s
/-- a call of a builtin's method by values: the receiver, the arguments -/
def MtR (X : Cx) (id : String) (r : V → List V → Hp → VK → Prop) : Prop :=
  ∀ (pins : List (Addr × Obj)) (s : Shared) (σ : St) (H : Hp) (x : V) (xs : List V) (v : Value) (us : List Value) (Q : VK), Inv X pins σ H s → RelV x v → Vals xs us → r x xs H Q →
    wpAny (model X.prog X.w) X.A (call (.builtin id) (v :: us)) (EP X pins σ Q) X.xe s
section
variable {X : Cx} {a b : Expr} {ta tb : TE} {pos : Pos}
/-- a[b] -/
theorem pe_ix {r : R2} (hr : IxR X r) (ha : PE X a ta) (hb : PE X b tb) (hs : PlainIx b) : PE X (.Subscript a b pos) (tOp r ta tb) := by
  intro pins s σ H Q I h
  exact Subscript_ (binT ha hb I h fun v u s2 x y H2 I2 rx ry q => hr a b pins s2 σ H2 x y v u Q I2 rx ry q (hs _ _))

def rIxL (K : PySem.W.Frag) : R2 := fun x y H Q => ∃ p xs i v, x = .ref p ∧ y = .int i ∧ SqL K H p xs ∧ atI xs i = some v ∧ Q v H
theorem ix_list : IxR X (rIxL X.K) := by
  intro value slice pins s σ H x y v u Q I rx ry h hs
  obtain ⟨p, xs, i, z, rfl, rfl, hq, he, q⟩ := h
  cases rx
  obtain ⟨t, rfl⟩ := ry
  obtain ⟨its, r, pl, hz⟩ := I.list hq
  obtain ⟨j, h1, h2, h3, h4, h5⟩ := atI_get he
  obtain ⟨w, ew, rw'⟩ := r.get h2
  have hl := r.length
  have hn := line63
  have fin : EP X pins σ Q w s := ⟨z, H, I, rw', q⟩
  by_cases h0 : 0 ≤ i
  · have hj : i.toNat = j := by
      rw [seqIndex_of h0 h5] at h1
      exact Option.some.inj h1
    exact item_listR pl.isList h0 (by omega) (by rw [hj]; simpa using ew) fin hs
  · have hj : (i + (its.toArray.size : Int)).toNat = j := by
      rw [seqIndex_neg (by omega) h4] at h1
      rw [List.size_toArray, ← hl]
      exact Option.some.inj h1
    exact subscriptTail_builtinR (x := w) pl.isList.typeIs slot_list_getitem.lookup
      (wpAny_getItem_list_neg (Q := fun r s' => r = w ∧ EP X pins σ Q r s') pl.isList (by omega) (by rw [List.size_toArray] <;> omega) (by omega) (by rw [hj]; simpa using ew) ⟨rfl, fin⟩) hs

/-! ### xs[i] = v, any sign -/

/-! ### slices -/
theorem slice_bounds (lo hi : Option Int) (n : Nat) : (sliceBounds lo hi none n).1 = ((HT.sIx n 0 lo : Nat) : Int) ∧ (sliceBounds lo hi none n).2.1 = ((HT.sIx n n hi : Nat) : Int) ∧ (sliceBounds lo hi none n).2.2 = 1 := by
  refine ⟨?_, ?_, rfl⟩
  · cases lo with
    | none => simp [sliceBounds, HT.sIx]
    | some i =>
      simp only [sliceBounds, HT.sIx, Option.getD_none, show (1 : Int) > 0 by decide, if_true]
      by_cases h : i < 0
      · simp only [h, if_true] <;> omega
      · simp only [h, if_false] <;> omega
  · cases hi with
    | none => simp [sliceBounds, HT.sIx]
    | some i =>
      simp only [sliceBounds, HT.sIx, Option.getD_none, show (1 : Int) > 0 by decide, if_true]
      by_cases h : i < 0
      · simp only [h, if_true] <;> omega
      · simp only [h, if_false] <;> omega
theorem slicePick_cut (its : List Value) (lo hi : Option Int) : slicePick its.toArray lo hi none = ((its.drop (HT.sIx its.length 0 lo)).take (HT.sIx its.length its.length hi - HT.sIx its.length 0 lo)).toArray := by
  obtain ⟨h1, h2, h3⟩ := slice_bounds lo hi its.toArray.size
  unfold slicePick
  rw [h1, h2, h3]
  simp only [sliceRange_one, pick_run, List.size_toArray] <;> rfl
/-- xs[lo:hi] of a list: a new list -/
def rSlL (K : PySem.W.Frag) : V → Option Int → Option Int → Hp → VK → Prop := fun x lo hi H Q => ∃ a xs, x = .ref a ∧ SqL K H a xs ∧ ∀ p, H p = none → Q (.ref p) (upd H p (.lst (cutV xs lo hi)))
theorem sl_list : SlR X (rSlL X.K) := by
  intro pins s σ H x v vl vu lo hi sl Q I rx hs pl pu h
  obtain ⟨a, xs, rfl, hx, q⟩ := h
  cases rx
  obtain ⟨its, r, ht, hz⟩ := I.list hx
  have hlen := r.length
  refine ⟨"list", _, slot_list_getitem.lookup, ht.isList.typeIs, ?_⟩
  refine wpAny_getItem_list_slice ht.isList hs pl pu .none (by simp) ?_ (by rw [List.size_toArray] <;> omega)
  rw [slicePick_cut, ← hlen]
  refine ⟨.ref s.heap.objs.size, _, I.laid (t' := s.toks) (o := .lst (cutV xs lo hi)) (fun b ob q => Heap.get?_push_of_some _ q) (Nat.le_refl _) ?_, rfl, q _ (I.hok.fresh (Nat.le_refl _))⟩
  exact ⟨Nat.le_trans (cutV_length xs lo hi) hz, _, 0, (r.drop (HT.sIx xs.length 0 lo)).take (HT.sIx xs.length xs.length hi - HT.sIx xs.length 0 lo), Heap.get?_push_size _ rfl⟩

/-! ### in, not in: flat items -/
def flatV : V → Bool
  | .non => true
  | .bl _ => true
  | .int _ => true
  | .str _ => true
  | _ => false
/-- == of flat values -/
def eqV : V → V → Bool
  | .non, .non => true
  | .bl a, .bl b => a == b
  | .bl a, .int b => (if a then 1 else 0) == b
  | .int a, .bl b => a == (if b then 1 else 0)
  | .int a, .int b => a == b
  | .str a, .str b => a == b
  | _, _ => false
theorem eqAt_V {A : Around} {s : Shared} {y x : V} {u v : Value} (ry : RelV y u) (rx : RelV x v) (fy : flatV y = true) (fx : flatV x = true) : SeqAt.EqAt A s u v (eqV y x) := by
  cases y with
  | non =>
    cases ry
    cases x with
    | non => cases rx; exact SeqAt.EqAt.same _
    | bl b => cases rx; exact SeqAt.EqAt.none_bool b
    | int b => obtain ⟨t, rfl⟩ := rx; exact SeqAt.EqAt.none_int b t
    | str b => obtain ⟨t, rfl⟩ := rx; exact SeqAt.EqAt.none_str b t
    | _ => exact absurd (show false = true from fx) Bool.false_ne_true
  | bl a =>
    cases ry
    cases x with
    | non => cases rx; exact SeqAt.EqAt.bool_none a
    | bl b => cases rx; exact SeqAt.EqAt.bool_bool a b
    | int b => obtain ⟨t, rfl⟩ := rx; exact SeqAt.EqAt.bool_int a b t
    | str b => obtain ⟨t, rfl⟩ := rx; exact SeqAt.EqAt.bool_str a b t
    | _ => exact absurd (show false = true from fx) Bool.false_ne_true
  | int a =>
    obtain ⟨t', rfl⟩ := ry
    cases x with
    | non => cases rx; exact SeqAt.EqAt.int_none a t'
    | bl b => cases rx; exact SeqAt.EqAt.int_bool a t' b
    | int b => obtain ⟨t, rfl⟩ := rx; exact SeqAt.EqAt.int_int a t' b t
    | str b => obtain ⟨t, rfl⟩ := rx; exact SeqAt.EqAt.int_str a t' b t
    | _ => exact absurd (show false = true from fx) Bool.false_ne_true
  | str a =>
    obtain ⟨t', rfl⟩ := ry
    cases x with
    | non => cases rx; exact SeqAt.EqAt.str_none a t'
    | bl b => cases rx; exact SeqAt.EqAt.str_bool a t' b
    | int b => obtain ⟨t, rfl⟩ := rx; exact SeqAt.EqAt.str_int a t' b t
    | str b => obtain ⟨t, rfl⟩ := rx; exact SeqAt.EqAt.str_str a t' b t
    | _ => exact absurd (show false = true from fx) Bool.false_ne_true
  | _ => exact absurd (show false = true from fy) Bool.false_ne_true
/-- the items' answers, read off the values (a value's own answer does not lean on its token) -/
def eqU (x : V) (u : Value) : Bool := match u with
  | .none => eqV .non x
  | .bool b => eqV (.bl b) x
  | .int i _ => eqV (.int i) x
  | .str z _ => eqV (.str z) x
  | _ => false
theorem eqU_of {x y : V} {u : Value} (r : RelV y u) (f : flatV y = true) : eqU x u = eqV y x := by
  cases y with
  | non => cases r; rfl
  | bl b => cases r; rfl
  | int i => obtain ⟨t, rfl⟩ := r; rfl
  | str z => obtain ⟨t, rfl⟩ := r; rfl
  | _ => exact absurd (show false = true from f) Bool.false_ne_true
theorem any_eqU {x : V} : ∀ {xs : List V} {us : List Value}, Vals xs us → xs.all flatV = true → us.any (eqU x) = xs.any fun y => eqV y x
  | _, _, .nil, _ => rfl
  | y :: xs, u :: us, .cons r t, f => by
    rw [List.all_cons, Bool.and_eq_true] at f
    rw [List.any_cons, List.any_cons, eqU_of r f.1, any_eqU t f.2]
theorem mem_eqAt {A : Around} {s : Shared} {x : V} {v : Value} (rx : RelV x v) (fx : flatV x = true) : ∀ {xs : List V} {us : List Value}, Vals xs us → xs.all flatV = true → ∀ u ∈ us, SeqAt.EqAt A s u v (eqU x u)
  | _, _, .nil, _ => fun u hu => by cases hu
  | y :: xs, u :: us, .cons r t, f => fun u' hu => by
    rw [List.all_cons, Bool.and_eq_true] at f
    rcases List.mem_cons.mp hu with rfl | hu
    · rw [eqU_of r f.1]; exact eqAt_V r rx f.1 fx
    · exact mem_eqAt rx fx t f.2 u' hu
def inV (x : V) (xs : List V) : Bool := xs.any fun y => eqV y x
/-- x in a list or tuple of flat items -/
def rIn (K : PySem.W.Frag) (neg : Bool) : R2 := fun x y H Q => ∃ p xs, y = .ref p ∧ (SqL K H p xs ∨ SqT K H p xs) ∧ flatV x = true ∧ xs.all flatV = true ∧ Q (.bl (if neg then !inV x xs else inV x xs)) H
theorem op_in_seq : OpR X (compareOp .In) (rIn X.K false) := by
  intro pins s σ H x y v u Q I rx ry h
  obtain ⟨p, xs, rfl, hq, fx, fs, q⟩ := h
  cases ry
  rcases hq with hq | hq
  · obtain ⟨its, r, pl, hz⟩ := I.list hq
    refine SeqAt.in_listAt (eqU x) pl.isList (fun w hw => mem_eqAt rx fx r fs w (by simpa using hw)) ⟨.bl _, H, I, rfl, ?_⟩
    rw [show its.toArray.any (eqU x) = its.any (eqU x) by simp, any_eqU r fs]
    exact q
  · obtain ⟨its, r, pl, hz⟩ := I.tuple hq
    refine SeqAt.in_tupleAt (eqU x) pl (fun w hw => mem_eqAt rx fx r fs w (by simpa using hw)) ⟨.bl _, H, I, rfl, ?_⟩
    rw [show its.toArray.any (eqU x) = its.any (eqU x) by simp, any_eqU r fs]
    exact q

/-! ### len, list(x), tuple(x) of any list or tuple that is read -/
theorem call_len_seq : CallR X (.builtin "len") (fun xs H Q => ∃ p ys, xs = [.ref p] ∧ (SqL X.K H p ys ∨ SqT X.K H p ys) ∧ Q (.int ys.length) H) := by
  intro pins s σ H xs us Q I r h
  obtain ⟨p, ys, rfl, hq, q⟩ := h
  obtain ⟨u, rfl, rx⟩ := vals1 r
  cases rx
  have hn := line63
  rcases hq with hq | hq
  · obtain ⟨its, r', pl, hz⟩ := I.list hq
    have hlen := r'.length
    exact Calls.call_len_list pl.isList (by simp only [List.size_toArray] <;> omega) ⟨.int ys.length, H, I.tok _, ⟨s.toks + 1, by rw [List.size_toArray, hlen]⟩, q⟩
  · obtain ⟨its, r', pl, hz⟩ := I.tuple hq
    have hlen := r'.length
    exact len_tuple pl (by simp only [List.size_toArray] <;> omega) ⟨.int ys.length, H, I.tok _, ⟨s.toks + 1, by rw [List.size_toArray, hlen]⟩, q⟩

/-! ### the call of a builtin's method: o.m(..) -/
/-- the value is of that builtin type -/
def tyV (K : PySem.W.Frag) (T : String) (x : V) (H : Hp) : Prop := match x with
  | .str _ => T = "str"
  | .int _ => T = "int"
  | .ref p => (T = "list" ∧ ∃ xs, SqL K H p xs) ∨ (T = "tuple" ∧ ∃ o, K.lookup p = some o ∧ o.cls = .type "tuple" ∧ o.dict = none) ∨
      (T = "dict" ∧ ((∃ kvs, H p = some (.dK kvs)) ∨ ∃ kvs, H p = some (.dT kvs))) ∨ (T = "set" ∧ ∃ S n, H p = some (.set S n))
  | _ => False
theorem tyV_is {pins : List (Addr × Obj)} {σ : St} {H : Hp} {s : Shared} {T : String} {x : V} {v : Value} (I : Inv X pins σ H s) (r : RelV x v) (ty : tyV X.K T x H) :
    s.TypeIs v T ∧ ∀ a, v = .ref a → ∃ ob, s.heap.get? a = some ob ∧ ob.dict = none := by
  cases x with
  | str z =>
    obtain ⟨t, rfl⟩ := r
    cases (show T = "str" from ty)
    exact ⟨typeIs_str s z t, fun _ e => nomatch e⟩
  | int i =>
    obtain ⟨t, rfl⟩ := r
    cases (show T = "int" from ty)
    exact ⟨typeIs_int s i t, fun _ e => nomatch e⟩
  | ref p =>
    cases r
    rcases ty with ⟨rfl, xs, hq⟩ | ⟨rfl, o, hk, hc, hd⟩ | ⟨rfl, hk⟩ | ⟨rfl, S, n, hk⟩
    · obtain ⟨its, _, pl, _⟩ := I.list hq
      refine ⟨pl.isList.typeIs, fun a e => ?_⟩
      cases e
      obtain ⟨o, n, e, c, hd, _⟩ := pl
      exact ⟨o, e, hd⟩
    · refine ⟨⟨o, I.kIn p o hk, hc⟩, fun a e => ?_⟩
      cases e
      exact ⟨o, I.kIn _ o hk, hd⟩
    · have z : ∃ o, s.heap.get? p = some o ∧ o.ExactDict := by
        rcases hk with ⟨kvs, hk⟩ | ⟨kvs, hk⟩
        · obtain ⟨_, _, _, _, o, _, _, e, ex, _⟩ := I.hok p _ hk
          exact ⟨o, e, ex⟩
        · obtain ⟨_, _, _, _, o, _, _, e, ex, _⟩ := I.hok p _ hk
          exact ⟨o, e, ex⟩
      obtain ⟨o, e, ex⟩ := z
      refine ⟨⟨o, e, ex.1⟩, fun a e2 => ?_⟩
      cases e2
      exact ⟨o, e, ex.2.1⟩
    · obtain ⟨o, _, _, _, e, ex, _⟩ := I.hok p _ hk
      refine ⟨⟨o, e, ex.1⟩, fun a e2 => ?_⟩
      cases e2
      exact ⟨o, e, ex.2.1⟩
  | _ => exact False.elim ty
def tBM (K : PySem.W.Frag) (T : String) (r : V → List V → Hp → VK → Prop) (to : TE) (t : TA) : TE := fun σ H Q => to σ H fun x H1 => tyV K T x H1 ∧ t σ H1 fun xs H2 => r x xs H2 Q
variable {o e : Expr} {es : List Expr} {to : TE} {t : TA} {name : Str} {apos cpos : Pos} {T id : String} {r : V → List V → Hp → VK → Prop}
theorem pe_bm (pa : PlainAttrs T) (slot : Slot T name id) (hty : typeOf (.builtin id) = pure (.type "method_descriptor")) (hm : MtR X id r) (ho : PE X o to) (ha : PA X (e :: es) t)
    (hbase : attributeBase o name X.env (eval o X.env) = eval o X.env := by rfl)
    (hfew : ((backTo cpos (starEach (e :: es) X.env)).all (fun x => !x.1) && (backToKw cpos (keywordEach [] X.env)).all (fun x => x.1.isSome)
      && decide ((e :: es).length + ([] : List Keyword).length + (if ([] : List Keyword).isEmpty then 0 else 1) < 30)) = true := by rfl)
    (hline : (apos.endLine == cpos.line) = true := by rfl) (hs : starEach (e :: es) X.env = (false, eval e X.env) :: starEach es X.env := by rfl) (hplain : (backTo cpos (starEach es X.env)).any (·.1) = false := by rfl) :
    PE X (.Call (.Attribute o name apos) (e :: es) [] cpos) (tBM X.K T r to t) := by
  intro pins s σ H Q I h
  refine wpAny_Call_method_late hbase hfew hline rfl (thn (ho pins s σ H _ I h) fun v s1 ⟨x, H1, I1, r1, ty, q1⟩ => ?_)
  obtain ⟨h1, h2⟩ := tyV_is I1 r1 ty
  refine ⟨T, id, pa, slot, hty, h1, h2, ?_⟩
  have hA := ha cpos pins s1 σ H1 _ I1 q1
  rw [hs] at hA ⊢
  refine Calls.callWith_builtin (by show (false || (backTo cpos (starEach es X.env)).any (·.1)) = false; rw [hplain] <;> rfl) (Calls.evalArgs_plain ?_)
  exact thn hA fun us s2 ⟨vs, H2, I2, r2, q2⟩ => hm pins s2 σ H2 x vs v us Q I2 r1 r2 q2
/- xs.append(e), list.index on a module's tuple .. are MtR facts of 06m -/
end
end L2

namespace L2
open PySem PySem.Spec PyProof.Rows

def MtM (X : Cx) (id : String) (r : V → List V → Hp → VK → Prop) : Prop :=
  ∀ (pins : List (Addr × Obj)) (s : Shared) (σ : St) (H : Hp) (x : V) (xs : List V) (v : Value) (us : List Value) (Q : VK), Inv X pins σ H s → RelV x v → Vals xs us → r x xs H Q →
    wpAny (model X.prog X.w) X.A (call (.builtin id) (v :: us)) (EP X pins σ Q) X.xe s

/-! ### lists of values -/
theorem Vals.one : ∀ {x : V} {us : List Value}, Vals [x] us → ∃ u, us = [u] ∧ RelV x u
  | _, _, .cons r .nil => ⟨_, rfl, r⟩

section
variable {X : Cx} {pins : List (Addr × Obj)} {σ : St} {H : Hp} {s : Shared} {l b : Addr} {xs ys zs : List V}

/-! ### the two steps: a tracked list is rewritten, a new list is laid -/
theorem Inv.lset {its its' : List Value} {n : Nat} {f : Array Value → Array Value} {t' : Nat} (I : Inv X pins σ H s) (hH : H l = some (.lst xs))
    (e : s.heap.get? l = some { cls := .type "list", data := .seq its.toArray n }) (hf : f its.toArray = its'.toArray) (hv : Vals ys its') (hz : ys.length ≤ sizeLine) :
    Inv X pins σ (upd H l (.lst ys)) { s with heap := s.heap.update l (Obj.mapSeq f), toks := t' } := by
  have q := PySem.IsL.update e f
  rw [hf] at q
  refine I.write (x := l) (e := l) (by rw [hH]; exact trivial) (.inl rfl) (fun b' u hb hu => (Heap.get?_update_other s.heap (Obj.mapSeq f) (Ne.symm hb)).trans hu) ⟨_, q⟩ ?_
  exact ⟨hz, its', _, hv, q⟩
theorem Inv.lnew {its : List Value} {t' : Nat} (I : Inv X pins σ H s) (hv : Vals ys its) (hz : ys.length ≤ sizeLine) :
    Inv X pins σ (upd H s.heap.objs.size (.lst ys)) { s with heap := s.heap.push { cls := .type "list", data := .seq its.toArray }, toks := t' } :=
  I.laid (fun _ _ q => Heap.get?_push_of_some _ q) (Nat.le_refl _) ⟨hz, its, 0, hv, Heap.get?_push_size _ rfl⟩
theorem Inv.fresh (I : Inv X pins σ H s) : H s.heap.objs.size = none := I.hok.fresh (Nat.le_refl _)
theorem Inv.lstM (I : Inv X pins σ H s) (hH : H l = some (.lst xs)) : xs.length ≤ sizeLine ∧ ∃ (its : List Value) (n : Nat), Vals xs its ∧ xs.length = its.length ∧ s.heap.get? l = some { cls := .type "list", data := .seq its.toArray n } := by
  obtain ⟨z, its, n, r, e⟩ := I.hok l _ hH
  exact ⟨z, its, n, r, r.length, e⟩

theorem notLongL {n : Nat} (h : n ≤ sizeLine) : Builtin.List.listTooLong n = false := by
  unfold Builtin.List.listTooLong
  exact decide_eq_false (by omega)
end

section
variable {X : Cx}

/-! ### methods -/
def rAppend : V → List V → Hp → VK → Prop := fun x vs H Q => ∃ l xs y, x = .ref l ∧ vs = [y] ∧ H l = some (.lst xs) ∧ xs.length < sizeLine ∧ Q .non (upd H l (.lst (xs ++ [y])))
theorem mt_append : MtM X "list.append" rAppend := by
  intro pins s σ H x vs v us Q I rx rv h
  obtain ⟨l, xs, y, rfl, rfl, hH, hz, q⟩ := h
  cases rx
  obtain ⟨u, rfl, ru⟩ := rv.one
  obtain ⟨z, its, n, r, hl, e⟩ := I.lstM hH
  refine call_meets F.slot_list_append ⟨_, e, rfl⟩ F.entry_list_append (F.args_list_append_2 _ _) (PySem.list_append l its.toArray n u (by rw [List.size_toArray]; omega)) ⟨e, ?_⟩
  refine ⟨.non, _, I.lset (its' := its ++ [u]) hH e (by simp) (r.append (.cons ru .nil)) ?_, rfl, q⟩
  rw [List.length_append, List.length_singleton]
  omega

def rExtend : V → List V → Hp → VK → Prop := fun x vs H Q => ∃ l b xs zs, x = .ref l ∧ vs = [.ref b] ∧ H l = some (.lst xs) ∧ H b = some (.lst zs) ∧ xs.length + zs.length ≤ sizeLine ∧ Q .non (upd H l (.lst (xs ++ zs)))
theorem mt_extend : MtM X "list.extend" rExtend := by
  intro pins s σ H x vs v us Q I rx rv h
  obtain ⟨l, b, xs, zs, rfl, rfl, hH, hB, hz, q⟩ := h
  cases rx
  obtain ⟨u, rfl, ru⟩ := rv.one
  cases ru
  obtain ⟨z, its, n, r, hl, e⟩ := I.lstM hH
  obtain ⟨z2, its2, n2, r2, hl2, e2⟩ := I.lstM hB
  have hsz : its.toArray.size + its2.toArray.size ≤ sizeLine := by rw [List.size_toArray, List.size_toArray]; omega
  have hlong : ¬ (!its.toArray.isEmpty && Builtin.List.listTooLong (its.toArray.size + its2.toArray.size)) = true := by
    rw [notLongL hsz, Bool.and_false]
    exact Bool.false_ne_true
  refine call_meets F.slot_list_extend ⟨_, e, rfl⟩ F.entry_list_extend (F.args_list_extend_2 _ _)
    (AutoSeq1.list_extend_list_list_0 l its.toArray n b its2.toArray n2 hlong (by rw [List.size_toArray]; omega) (by omega)) ⟨e, e2, ?_⟩
  refine ⟨.non, _, I.lset (its' := its ++ its2) hH e (by simp) (r.append r2) ?_, rfl, q⟩
  rw [List.length_append]
  omega





/-! ### list + list, list += list, list * int -/
def rCat : R2 := fun x y H Q => ∃ l b xs zs, x = .ref l ∧ y = .ref b ∧ H l = some (.lst xs) ∧ H b = some (.lst zs) ∧ xs.length + zs.length ≤ sizeLine ∧ ∀ p, H p = none → Q (.ref p) (upd H p (.lst (xs ++ zs)))
theorem op_cat : OpR X (binaryOp .Add) rCat := by
  intro pins s σ H x y v u Q I rx ry h
  obtain ⟨l, b, xs, zs, rfl, rfl, hH, hB, hz, q⟩ := h
  cases rx
  cases ry
  obtain ⟨z, its, n, r, hl, e⟩ := I.lstM hH
  obtain ⟨z2, its2, n2, r2, hl2, e2⟩ := I.lstM hB
  refine PySem.P.add_list e e2 ?_ (by rw [List.size_toArray, List.size_toArray]; omega)
  have ea : its.toArray ++ its2.toArray = (its ++ its2).toArray := by simp
  rw [ea]
  exact ⟨.ref _, _, I.lnew (t' := s.toks) (r.append r2) (by rw [List.length_append]; omega), rfl, q _ I.fresh⟩

/-! ### del xs[i] -/
end

/-! ### xs[a:b] = ys -/
section
variable {prog : Program} {w : World} {A : Around} {E : Value → Shared → Prop} {s : Shared}
set_option maxRecDepth 100000 in
end

end L2

namespace L2
open PySem PySem.Spec PyProof.Rows

theorem Vals.ints : ∀ {ns : List Int} {us : List Value}, Vals (ns.map V.int) us → IntsAre us ns
  | [], us, h => by
    rw [List.map_nil] at h
    cases h
    exact IntsAre.nil
  | n :: ns, us, h => by
    rw [List.map_cons] at h
    cases h with
    | cons r t =>
      obtain ⟨k, rfl⟩ := r
      exact IntsAre.cons n k (Vals.ints t)
theorem Vals.bls : ∀ {bs : List Bool} {us : List Value}, Vals (bs.map V.bl) us → us = bs.map Value.bool
  | [], us, h => by
    rw [List.map_nil] at h
    cases h
    rfl
  | b :: bs, us, h => by
    rw [List.map_cons] at h
    cases h with
    | cons r t =>
      cases r
      rw [Vals.bls t, List.map_cons]
theorem Vals.ref1 {a : Addr} {us : List Value} (r : Vals [V.ref a] us) : us = [Value.ref a] := by
  cases r with
  | cons r t =>
    cases t
    cases r
    rfl

/-! ### the library's walks over a list of ints, kept objects alone -/
section
variable {prog : Program} {w : World} {A : Around} {E : Value → Shared → Prop} {s : Shared} {l : Addr} {its : List Value} {ns : List Int} {Q : Value → Shared → Prop}
theorem sum_raw (hh : A.handled = none) (hl : s.heap.IsList l its.toArray) (hi : IntsAre its ns)
    (h : ∀ h' tk t', (∀ b o, s.heap.get? b = some o → h'.get? b = some o) → Q (.int ns.sum t') { s with heap := h', toks := tk }) : wpAny (model prog w) A (call (.builtin "sum") [.ref l]) Q E s := by
  obtain ⟨xs, e⟩ := hi.allInts.items
  have hn : numsOf (intItems xs).toList = ns := by rw [← e]; exact hi.numsOf
  rw [nums_intItems] at hn
  rw [e] at hl
  refine PySem.sum_intListG hh hl fun h' tk t' hk => ?_
  have := h h' tk t' hk
  rw [preSum_eq, List.take_of_length_le (by simp), hn]; exact this
end

/-! ### the calls, by values (CallR of 03t; MtR of 06l) -/
section
variable {X : Cx}
/-- sum(xs) of a list of ints -/
def rSum (K : PySem.W.Frag) : List V → Hp → VK → Prop := fun vs H Q => ∃ (a : Addr) (ns : List Int), vs = [V.ref a] ∧ SqL K H a (ns.map V.int) ∧ Q (.int ns.sum) H
theorem cr_sum (hc : X.calm = true) : CallR X (.builtin "sum") (rSum X.K) := by
  intro pins s σ H vs us Q I r h
  obtain ⟨a, ns, rfl, hs, q⟩ := h
  obtain ⟨its, rv, hl, _⟩ := I.list hs
  rw [Vals.ref1 r]
  exact sum_raw (I.ok.hd hc) hl.isList rv.ints fun h' tk t' hk => ⟨.int _, H, I.kept hk, ⟨_, rfl⟩, q⟩

/-! sorted, sort (fewer than 64 items: the library's own bound) -/
end

/-! ### list.index, flat items -/

/-! ### type(x) of an own instance; is, is not of a module's class -/

/-! ### any(xs), all(xs) of a list of bools -/
theorem iter_any {prog : Program} {w : World} {A : Around} {E : Value → Shared → Prop} {s : Shared} {l : Addr} {items : Array Value} {Q : Value → Shared → Prop} (hl : s.heap.IsList l items)
    (h : ∀ s₂ : Shared, s₂ = { s with heap := s.heap.push { cls := .type "list_iterator", data := .fields #[.ref l, .int 0 0] } } →
      (s₂.heap.IsListIter s.heap.objs.size l 0 ∧ s₂.heap.IsList l items) → l ≠ s.heap.objs.size → Q (.ref s.heap.objs.size) s₂) : wpAny (model prog w) A (pyIter (.ref l)) Q E s := by
  have hlt : l < s.heap.objs.size := by obtain ⟨_, e, _⟩ := hl; exact Heap.lt_size e
  exact wpAny_pyIter_list hl (h _ rfl ⟨⟨_, Heap.get?_push_size _ rfl, rfl, rfl⟩, hl.push _⟩ (Nat.ne_of_lt hlt))
theorem truth_bools {prog : Program} {w : World} {A : Around} {bs : List Bool} {its : List Value} (e : its = bs.map Value.bool) :
    TruthOf prog w A (fun i v => its.toArray[i]? = some v) (fun i => bs.getD i false) := fun i v s Q E hv hq => by
  have hv' : its[i]? = some v := by simpa using hv
  rw [e, List.getElem?_map] at hv'
  obtain ⟨b, hb, rfl⟩ := Option.map_eq_some_iff.mp hv'
  have hg : bs.getD i false = b := by rw [List.getD_eq_getElem?_getD, hb] <;> rfl
  have hq' : Q (bs.getD i false) s := hq
  rw [hg] at hq'
  exact wpAny_truthy_bool hq'
theorem all_range : ∀ bs : List Bool, (List.range bs.length).all (fun i => bs.getD i false) = bs.all id
  | [] => rfl
  | b :: bs => by
    rw [List.length_cons, List.range_succ_eq_map, List.all_cons, List.all_map, List.all_cons, ← all_range bs]
    all_goals rfl
section
variable {X : Cx}
def rAll (K : PySem.W.Frag) : List V → Hp → VK → Prop := fun vs H Q => ∃ (a : Addr) (bs : List Bool), vs = [V.ref a] ∧ SqL K H a (bs.map V.bl) ∧ Q (.bl (bs.all id)) H
theorem cr_all (hc : X.calm = true) : CallR X (.builtin "all") (rAll X.K) := by
  intro pins s σ H vs us Q I r h
  obtain ⟨a, bs, rfl, hs, q⟩ := h
  obtain ⟨its, rv, hl, _⟩ := I.list hs
  rw [Vals.ref1 r]
  have hb := rv.bls
  refine call_all_walk (iter_any hl.isList fun s₂ e2 st hne => ?_)
  subst e2
  refine ⟨_, _, _, _, _, _, _, rfl, Walks.list (A := X.A.in1) (I.ok.hd hc) _ a hne its.toArray, st, truth_bools hb, fun h' tk hk => ?_⟩
  refine ⟨.bl _, H, I.kept fun b o eo => hk b o (fun hmem => ?_) (Heap.get?_push_of_some _ eo), ?_, q⟩
  · rcases List.mem_cons.mp hmem with e1 | hmem
    · exact absurd (e1 ▸ Heap.lt_size eo) (Nat.lt_irrefl _)
    · cases hmem
  · show Value.bool _ = Value.bool _
    rw [← all_range, hb, List.size_toArray, List.length_map]
end

/-! ### == and != of data at any depth: none, bools, ints, texts, lists, tuples -/
end L2

namespace L2
open PySem PySem.Spec PyProof.Rows
abbrev CellAt (h : Heap) (c : Addr) (v : Option Value) : Prop := h.IsCell c v
def relS (scope sc : Scope) : Scope :=
  { scope with names := scope.names.map fun (n, k) => if (k == .free && sc.kind == .function && sc.names.lookup n == some .cell) then (n, .cell) else (n, k) }

def cloFrom (cells : List (Str × Addr)) : List (Str × NameKind) → List (Str × Addr) → List (Str × Addr)
  | [], acc => acc
  | (n, k) :: r, acc => if k == .free then cloFrom cells r ((n, (cells.lookup n).getD 0) :: acc) else cloFrom cells r acc

theorem closure_loop (env : Env) (f : Str × NameKind → List (Str × Addr) → Sem (ForInStep (List (Str × Addr))))
    (hf : ∀ n k c, f (n, k) c = if k == .free then (do let a ← cellOf env n; pure (.yield ((n, a) :: c))) else pure (.yield c)) :
    ∀ (names : List (Str × NameKind)) (acc : List (Str × Addr)), (∀ y ∈ names, y.2 = .free → ∃ c, env.cells.lookup y.1 = some c) → forIn names acc f = pure (cloFrom env.cells names acc)
  | [], acc, _ => by rw [List.forIn_nil]; rfl
  | (n, k) :: r, acc, h => by
    rw [List.forIn_cons, hf]
    have ih := fun acc => closure_loop env f hf r acc fun y hy => h y (List.mem_cons_of_mem _ hy)
    unfold cloFrom
    by_cases hk : (k == NameKind.free) = true
    · rw [if_pos hk, if_pos hk]
      obtain ⟨c, hc⟩ := h (n, k) List.mem_cons_self (by simpa using hk)
      have e : cellOf env n = pure c := by unfold cellOf; rw [hc]
      rw [e]
      have e2 : (env.cells.lookup n).getD 0 = c := by rw [hc]; rfl
      rw [e2]
      exact ih _
    · rw [if_neg hk, if_neg hk]
      exact ih _
theorem closure_ok {scope : Scope} {env : Env} (h : ∀ y ∈ scope.names, y.2 = .free → ∃ c, env.cells.lookup y.1 = some c) : closureFor scope env = pure (cloFrom env.cells scope.names []) := by
  simp only [closureFor]
  rw [closure_loop env _ (fun n k c => rfl) scope.names [] h]
  rfl

theorem mem_lookup {α : Type} : ∀ {l : List (Str × α)} {n : Str} {c : α}, (n, c) ∈ l → ∃ c', l.lookup n = some c'
  | (k, v) :: r, n, c, h => by
    rw [List.lookup_cons]
    cases hb : n == k with
    | true => exact ⟨_, rfl⟩
    | false =>
      rcases List.mem_cons.mp h with e | h
      · cases e; simp at hb
      · exact mem_lookup h

theorem cloFrom_mem {cells : List (Str × Addr)} : ∀ {names : List (Str × NameKind)} {acc : List (Str × Addr)} {n : Str} {c : Addr}, (n, c) ∈ cloFrom cells names acc → (n, c) ∈ acc ∨ ((n, .free) ∈ names ∧ c = (cells.lookup n).getD 0)
  | [], _, _, _, h => .inl h
  | (m, k) :: r, acc, n, c, h => by
    unfold cloFrom at h
    split at h
    · rename_i hk
      have hk : k = .free := by simpa using hk
      rcases cloFrom_mem h with h | ⟨h1, h2⟩
      · rcases List.mem_cons.mp h with e | h
        · cases e; exact .inr ⟨hk ▸ List.mem_cons_self, rfl⟩
        · exact .inl h
      · exact .inr ⟨List.mem_cons_of_mem _ h1, h2⟩
    · rcases cloFrom_mem h with h | ⟨h1, h2⟩
      · exact .inl h
      · exact .inr ⟨List.mem_cons_of_mem _ h1, h2⟩
theorem cloFrom_acc {cells : List (Str × Addr)} : ∀ {names : List (Str × NameKind)} {acc : List (Str × Addr)} {p : Str × Addr}, p ∈ acc → p ∈ cloFrom cells names acc
  | [], _, _, h => h
  | (m, k) :: r, acc, p, h => by
    unfold cloFrom
    split
    · exact cloFrom_acc (List.mem_cons_of_mem _ h)
    · exact cloFrom_acc h
theorem cloFrom_has {cells : List (Str × Addr)} : ∀ {names : List (Str × NameKind)} {acc : List (Str × Addr)} {n : Str}, (n, .free) ∈ names → (n, (cells.lookup n).getD 0) ∈ cloFrom cells names acc
  | (m, k) :: r, acc, n, h => by
    unfold cloFrom
    rcases List.mem_cons.mp h with e | h
    · cases e
      exact cloFrom_acc List.mem_cons_self
    · split
      · exact cloFrom_has h
      · exact cloFrom_has h

theorem cells_mem : ∀ {names : List (Str × NameKind)} {h : Heap} {acc : List (Str × Addr)} {x : Str} {c : Addr}, (x, c) ∈ cellsFrom h.objs.size names acc →
    (x, c) ∈ acc ∨ ((x, .cell) ∈ names ∧ h.objs.size ≤ c ∧ CellAt (pushCells h names) c none)
  | [], _, _, _, _, h => .inl h
  | (n, k) :: r, h, acc, x, c, hm => by
    unfold cellsFrom at hm
    unfold pushCells
    split at hm
    · rename_i hk
      rw [if_pos hk]
      have hk : k = .cell := by simpa using hk
      rw [← Heap.size_push h { cls := .type "cell", data := .cell none }] at hm
      rcases cells_mem hm with hm | ⟨h1, h2, h3⟩
      · rcases List.mem_cons.mp hm with e | hm
        · cases e
          exact .inr ⟨hk ▸ List.mem_cons_self, Nat.le_refl _, _, pushCells_keeps r _ _ _ (Heap.get?_push_size _ rfl), rfl⟩
        · exact .inl hm
      · rw [Heap.size_push] at h2
        exact .inr ⟨List.mem_cons_of_mem _ h1, Nat.le_of_succ_le h2, h3⟩
    · rename_i hk
      rw [if_neg hk]
      rcases cells_mem hm with hm | ⟨h1, h2, h3⟩
      · exact .inl hm
      · exact .inr ⟨List.mem_cons_of_mem _ h1, h2, h3⟩
theorem cells_acc : ∀ {names : List (Str × NameKind)} {n : Nat} {acc : List (Str × Addr)} {p : Str × Addr}, p ∈ acc → p ∈ cellsFrom n names acc
  | [], _, _, _, h => h
  | (m, k) :: r, n, acc, p, h => by
    unfold cellsFrom
    split
    · exact cells_acc (List.mem_cons_of_mem _ h)
    · exact cells_acc h
theorem cells_has : ∀ {names : List (Str × NameKind)} {n : Nat} {acc : List (Str × Addr)} {x : Str}, (x, .cell) ∈ names → ∃ c, (x, c) ∈ cellsFrom n names acc
  | (m, k) :: r, n, acc, x, h => by
    unfold cellsFrom
    rcases List.mem_cons.mp h with e | h
    · cases e
      exact ⟨n, cells_acc List.mem_cons_self⟩
    · split
      · exact cells_has h
      · exact cells_has h
theorem cells_inj : ∀ {names : List (Str × NameKind)} {h : Heap} {acc : List (Str × Addr)} {x y : Str} {c : Addr}, (∀ p ∈ acc, p.2 < h.objs.size) → (∀ x y c, (x, c) ∈ acc → (y, c) ∈ acc → x = y) →
    (x, c) ∈ cellsFrom h.objs.size names acc → (y, c) ∈ cellsFrom h.objs.size names acc → x = y
  | [], _, _, _, _, _, _, hi, h1, h2 => hi _ _ _ h1 h2
  | (n, k) :: r, h, acc, x, y, c, hl, hi, h1, h2 => by
    unfold cellsFrom at h1 h2
    split at h1
    · rename_i hk
      rw [if_pos hk] at h2
      rw [← Heap.size_push h { cls := .type "cell", data := .cell none }] at h1 h2
      refine cells_inj (h := h.push _) (fun p hp => ?_) (fun x y c a b => ?_) h1 h2
      · rw [Heap.size_push]
        rcases List.mem_cons.mp hp with rfl | hp
        · exact Nat.lt_succ_self _
        · exact Nat.lt_succ_of_lt (hl p hp)
      · rcases List.mem_cons.mp a with e | a <;> rcases List.mem_cons.mp b with e' | b
        · cases e; cases e'; rfl
        · cases e; exact absurd (hl _ b) (Nat.lt_irrefl _)
        · cases e'; exact absurd (hl _ a) (Nat.lt_irrefl _)
        · exact hi _ _ _ a b
    · rename_i hk
      rw [if_neg hk] at h2
      exact cells_inj hl hi h1 h2

theorem newEnv_comp {M : Model} {A : Around} {E : Value → Shared → Prop} {s : Shared} {scope : Scope} {globals : Addr} {closure : List (Str × Addr)} {qual : Str} {func : Option Addr} {code : Value} {around : Env} {builtins : Addr} {Q : Env → Shared → Prop}
    (h : Q (newEnv scope s.heap.objs.size globals (cellsFrom (s.heap.objs.size + 1) scope.names closure) qual func code (some around) builtins)
      { s with heap := pushCells (s.heap.push { cls := .type "dict", data := .dict #[] }) scope.names }) :
    wpAny M A (newFunctionEnv scope globals closure [] qual func code (some around) builtins) Q E s := by
  simp only [newFunctionEnv, Option.isSome_some, if_true]
  refine wpAny_bind (wpAny_alloc ?_)
  refine wpAny_bind (wpAny_layCells _ (fun n k c => rfl) scope.names closure _ _ ?_)
  rw [show ({ s with heap := s.heap.push { cls := .type "dict", data := .dict #[] } } : Shared).heap.objs.size = s.heap.objs.size + 1 from Heap.size_push ..]
  rw [List.forIn_nil]
  exact wpAny_bind (wpAny_pure (wpAny_pure h))

/-- every name of the written scope, in the scope that runs -/
theorem lookup_relS {sc : Scope} : ∀ {names : List (Str × NameKind)} {x : Str} {k : NameKind},
    (names.map fun (n, k) => if (k == NameKind.free && sc.kind == .function && sc.names.lookup n == some .cell) then (n, NameKind.cell) else (n, k)).lookup x = some k →
    ∃ k', names.lookup x = some k' ∧ (k = k' ∨ (k' = .free ∧ k = .cell))
  | [], _, _, h => by simp at h
  | (n, k₀) :: r, x, k, h => by
    have ih := @lookup_relS sc r x k
    have h' : List.lookup x ((if (k₀ == NameKind.free && sc.kind == .function && sc.names.lookup n == some .cell) = true then (n, NameKind.cell) else (n, k₀)) :: (r.map _)) = some k := h
    cases hx : x == n with
    | true =>
      simp only [List.lookup_cons, hx]
      by_cases hc : (k₀ == NameKind.free && sc.kind == .function && sc.names.lookup n == some .cell) = true
      · rw [if_pos hc] at h'
        simp only [List.lookup_cons, hx] at h'
        cases h'
        simp only [Bool.and_eq_true, beq_iff_eq] at hc
        exact ⟨k₀, rfl, .inr ⟨hc.1.1, rfl⟩⟩
      · rw [if_neg hc] at h'
        simp only [List.lookup_cons, hx] at h'
        cases h'
        exact ⟨_, rfl, .inl rfl⟩
    | false =>
      simp only [List.lookup_cons, hx]
      by_cases hc : (k₀ == NameKind.free && sc.kind == .function && sc.names.lookup n == some .cell) = true
      · rw [if_pos hc] at h'
        simp only [List.lookup_cons, hx] at h'
        exact ih h'
      · rw [if_neg hc] at h'
        simp only [List.lookup_cons, hx] at h'
        exact ih h'



/-- the names of a comprehension's block: its own (with their places in N), or captured -/
structure BlkOk (N : List Str) (sc scope : Scope) (own : List (Str × Nat)) : Prop where
  kind : scope.kind = .function
  uniq : ∀ y ∈ scope.names, scope.names.lookup y.1 = some y.2
  ix : ∀ p ∈ own, N[p.2]? = some p.1
  free : ∀ y ∈ scope.names, y.2 = .free → sc.names.lookup y.1 = some .cell ∨ sc.names.lookup y.1 = some .free
  own : ∀ y ∈ scope.names, y.2 = .local ∨ y.2 = .cell → y.1 ∈ own.map (·.1) ∨ y.1 ∉ N
/-- the slots of the block's own names forgotten -/
def wipe (σ : St) : List Nat → St
  | [] => σ
  | v :: vs => (wipe σ vs).set v none
theorem wipe_length (σ : St) : ∀ vs : List Nat, (wipe σ vs).length = σ.length
  | [] => rfl
  | v :: vs => by unfold wipe; rw [List.length_set, wipe_length σ vs]
theorem wipe_some {σ : St} {i : Nat} {x : V} : ∀ {vs : List Nat}, (wipe σ vs)[i]? = some (some x) → σ[i]? = some (some x) ∧ i ∉ vs
  | [], h => ⟨h, by simp⟩
  | v :: vs, h => by
    unfold wipe at h
    by_cases hi : v = i
    · subst hi
      by_cases hv : v < (wipe σ vs).length
      · rw [List.getElem?_set_self hv] at h; cases h
      · rw [List.getElem?_eq_none (by simpa using hv)] at h; cases h
    · rw [List.getElem?_set_ne hi] at h
      obtain ⟨h1, h2⟩ := wipe_some h
      exact ⟨h1, by simp only [List.mem_cons, not_or]; exact ⟨fun e => hi e.symm, h2⟩⟩

/-- the context of a block that starts at s, its iterator's objects at fp -/
abbrev Cx.blk (X : Cx) (s : Shared) (H : Hp) (scope : Scope) (cenv : Env) (fp : List Addr) : Cx := { X with s₀ := s, H₀ := H, env := cenv, outer := X.stack, ex := fp, fn := fun x => scope.names.lookup x == some .cell, pn := [], xe := fun _ _ => False }
section
variable {X : Cx} {pins : List (Addr × Obj)} {σ : St} {H : Hp} {s : Shared}
theorem block_start {scope : Scope} {own : List (Str × Nat)} {fp : List Addr} (I : Inv X pins σ H s) (ok : BlkOk X.N X.env.scope scope own) (hN : X.N.Nodup) (hfp : ∀ b ∈ fp, FpOk X pins H b ∧ b < s.heap.objs.size) :
    Inv (X.blk s H scope (compEnvC scope (cellsFrom (s.heap.objs.size + 1) scope.names (cloFrom X.env.cells scope.names [])) s.heap.objs.size X.env) fp) [] (wipe σ (own.map (·.2))) H { s with heap := pushCells (s.heap.push { cls := .type "dict", data := .dict #[] }) scope.names } := by
  have hfree : ∀ y ∈ scope.names, y.2 = .free → ∃ c, X.env.cells.lookup y.1 = some c := fun y hy e => by
    rcases ok.free y hy e with k | k
    · exact I.ok.has _ (.inl k)
    · exact I.ok.has _ (.inr k)
  generalize hcenv : compEnvC scope (cellsFrom (s.heap.objs.size + 1) scope.names (cloFrom X.env.cells scope.names [])) s.heap.objs.size X.env = cenv
  have kp : ∀ b o, s.heap.get? b = some o → (pushCells (s.heap.push { cls := .type "dict", data := .dict #[] }) scope.names).get? b = some o := fun b o e => pushCells_keeps _ _ _ _ (Heap.get?_push_of_some _ e)
  have hL : cenv.locals = s.heap.objs.size := by rw [← hcenv]; rfl
  have hcl : cenv.cells = cellsFrom (s.heap.objs.size + 1) scope.names (cloFrom X.env.cells scope.names []) := by rw [← hcenv]; rfl
  have hsc : cenv.scope = relS scope X.env.scope := by rw [← hcenv]; rfl
  rw [← Heap.size_push s.heap { cls := .type "dict", data := .dict #[] }] at hcl
  have cm : ∀ {y c}, (y, c) ∈ cloFrom X.env.cells scope.names [] → X.env.cells.lookup y = some c ∧ c < s.heap.objs.size := fun {y c} hm => by
    rcases cloFrom_mem hm with hm | ⟨h1, rfl⟩
    · cases hm
    · obtain ⟨c, hc⟩ := hfree _ h1 rfl
      rw [hc]
      obtain ⟨w, z⟩ := I.cell _ _ hc
      exact ⟨rfl, z.lt⟩
  have mem : ∀ {y c}, cenv.cells.lookup y = some c → (X.env.cells.lookup y = some c ∧ c < s.heap.objs.size) ∨ (s.heap.objs.size + 1 ≤ c ∧ CellAt (pushCells (s.heap.push { cls := .type "dict", data := .dict #[] }) scope.names) c none) := fun {y c} e => by
    rw [hcl] at e
    rcases cells_mem (PySem.mem_of_lookup e) with hm | ⟨_, h2, h3⟩
    · exact .inl (cm hm)
    · rw [Heap.size_push] at h2; exact .inr ⟨h2, h3⟩
  have look : ∀ {y}, scope.names.lookup y = some .free → ∃ c, cenv.cells.lookup y = some c ∧ X.env.cells.lookup y = some c := fun {y} hl => by
    have hy : (y, NameKind.free) ∈ scope.names := PySem.mem_of_lookup hl
    obtain ⟨c', e'⟩ := mem_lookup (cells_acc (names := scope.names) (n := (s.heap.push { cls := .type "dict", data := .dict #[] }).objs.size) (cloFrom_has (cells := X.env.cells) (acc := []) hy))
    rw [← hcl] at e'
    refine ⟨c', e', ?_⟩
    rw [hcl] at e'
    rcases cells_mem (PySem.mem_of_lookup e') with hm | ⟨h1, _, _⟩
    · exact (cm hm).1
    · have := ok.uniq _ h1
      rw [hl] at this; cases this
  have okB : (X.blk s H scope cenv fp).Ok := by
    refine ⟨I.ok.mod, by show cenv.scope.kind = _; rw [hsc]; exact ok.kind, by show cenv.globals = _; rw [← hcenv]; exact I.ok.glob, by show cenv.builtins = _; rw [← hcenv]; exact I.ok.blt, by show s.heap.objs.size ≤ cenv.locals; rw [hL]; exact Nat.le_refl _,
      fun y z c e1 e2 => ?_, fun y hy => ?_, fun y c z e => ?_, I.ok.hd, I.ok.frames, .inl rfl, fun b hb => ⟨?_, fun y c e z => ?_⟩, I.bs, Nat.le_trans I.ok.bsz I.sz, fun b o e hb => ?_, fun b hb z => ?_, I.stack, I.stkFree⟩
    · have e1 : cenv.cells.lookup y = some c := e1
      have e2 : cenv.cells.lookup z = some c := e2
      rw [hcl] at e1 e2
      refine cells_inj (fun p hp => ?_) (fun y z c a b => I.ok.inj y z c (cm a).1 (cm b).1) (PySem.mem_of_lookup e1) (PySem.mem_of_lookup e2)
      rw [Heap.size_push]
      exact Nat.lt_succ_of_lt (cm (y := p.1) (c := p.2) hp).2
    · show ∃ c, cenv.cells.lookup y = some c
      have key : ∀ k, cenv.kindOf y = some k → (k = .cell ∨ k = .free) → ∃ c, cenv.cells.lookup y = some c := fun k hk hk' => by
        unfold Env.kindOf at hk
        rw [hsc] at hk
        obtain ⟨k', e, r⟩ := lookup_relS hk
        have : k' = .cell ∨ k' = .free := by
          rcases r with rfl | ⟨rfl, _⟩
          · exact hk'
          · exact .inr rfl
        rcases this with rfl | rfl
        · obtain ⟨c, hm⟩ := cells_has (n := (s.heap.push { cls := .type "dict", data := .dict #[] }).objs.size) (acc := cloFrom X.env.cells scope.names []) (PySem.mem_of_lookup e)
          obtain ⟨c', e'⟩ := mem_lookup hm
          exact ⟨c', by rw [hcl]; exact e'⟩
        · obtain ⟨c, h1, _⟩ := look e
          exact ⟨c, h1⟩
      rcases hy with hy | hy
      · exact key _ hy (.inl rfl)
      · exact key _ hy (.inr rfl)
    · have z : (scope.names.lookup y == some NameKind.cell) = true := z
      have z : scope.names.lookup y = some .cell := by simpa using z
      have e : cenv.cells.lookup y = some c := e
      rw [hcl] at e
      rcases cells_mem (PySem.mem_of_lookup e) with hm | ⟨_, h2, _⟩
      · rcases cloFrom_mem hm with hm | ⟨h1, _⟩
        · cases hm
        · have q := ok.uniq _ h1
          rw [z] at q; cases q
      · rw [Heap.size_push] at h2
        exact Nat.le_of_succ_le h2
    · show b ≠ cenv.locals
      rw [hL]; exact Nat.ne_of_lt (hfp b hb).2
    · have e : cenv.cells.lookup y = some c := e
      rcases mem e with ⟨h1, _⟩ | ⟨h1, _⟩
      · exact (hfp b hb).1.2.2.2.2.1 y c h1 z
      · have h2 : s.heap.objs.size + 1 ≤ b := by rw [← z]; exact h1
        exact absurd (Nat.lt_of_lt_of_le (hfp b hb).2 (Nat.le_of_succ_le h2)) (Nat.lt_irrefl _)
    · rcases (hfp b hb).1.2.2.2.1 with z | z
      · exact I.ok.noex b o e z
      · exact absurd (Nat.lt_of_lt_of_le (Heap.lt_size e) (Nat.le_trans I.ok.bsz z)) (Nat.lt_irrefl _)
    · rcases List.mem_cons.mp (I.stkSub b z) with z | z
      · exact (hfp b hb).1.2.1 z
      · exact (hfp b hb).1.2.2.1 z
  refine ⟨okB, rfl, I.bare, Un.kept kp, ⟨fun _ => none, ?_, fun i y av e1 e2 e3 => ?_⟩, fun y c e => ?_, ?_, fun y c e => ?_, fun p hp => ?_, I.hok.kept kp, by rw [wipe_length]; exact I.len⟩
  · show Heap.Ns _ cenv.locals _
    rw [hL]
    exact Heap.Ns.keeps (Heap.Ns.new ..) fun b o e => pushCells_keeps _ _ _ _ e
  · obtain ⟨e2, hne⟩ := wipe_some e2
    have hfr : scope.names.lookup y = some .free ∧ (cenv.kindOf y = some .cell ∨ cenv.kindOf y = some .free) := by
      have key : ∀ k, cenv.scope.names.lookup y = some k → k = .local ∨ k = .cell ∨ k = .free → scope.names.lookup y = some .free ∧ (cenv.kindOf y = some .cell ∨ cenv.kindOf y = some .free) := fun k hk hk' => by
        have hk0 := hk
        rw [hsc] at hk
        obtain ⟨k', e, r⟩ := lookup_relS hk
        have no : ¬ (k' = .local ∨ k' = .cell) := fun hh => by
          rcases ok.own _ (PySem.mem_of_lookup e) hh with e' | e'
          · obtain ⟨p, hp, hpy⟩ := List.mem_map.mp e'
            have e3 := ok.ix p hp
            have : p.1 = y := hpy
            rw [this] at e3
            exact hne (List.mem_map.mpr ⟨p, hp, nodup_ix hN e3 e1⟩)
          · exact e' (List.mem_of_getElem? e1)
        rcases r with rfl | ⟨rfl, rfl⟩
        · rcases hk' with rfl | rfl | rfl
          · exact absurd (.inl rfl) no
          · exact absurd (.inr rfl) no
          · exact ⟨e, .inr hk0⟩
        · exact ⟨e, .inl hk0⟩
      have e3 : Vis cenv.scope y := e3
      rcases e3 with e3 | e3 | e3
      · exact key _ e3 (.inl rfl)
      · exact key _ e3 (.inr (.inl rfl))
      · exact key _ e3 (.inr (.inr rfl))
    obtain ⟨m, hn, hl⟩ := I.loc
    have hvis : Vis X.env.scope y := (ok.free _ (PySem.mem_of_lookup hfr.1) rfl).elim (fun k => .inr (.inl k)) (fun k => .inr (.inr k))
    obtain ⟨w, r, q⟩ := hl i y av e1 e2 hvis
    refine ⟨w, r, .inr ⟨hfr.2, ?_⟩⟩
    obtain ⟨c, h1, h2⟩ := look hfr.1
    rcases q with ⟨k, _⟩ | ⟨_, c', e', z⟩
    · have k : X.env.scope.names.lookup y = some .local := k
      rcases ok.free _ (PySem.mem_of_lookup hfr.1) rfl with k' | k' <;> rw [show X.env.scope.names.lookup y = _ from k'] at k <;> cases k
    · rw [h2] at e'; cases e'
      exact ⟨c, h1, z.keeps kp⟩
  · have e : cenv.cells.lookup y = some c := e
    rcases mem e with ⟨h1, _⟩ | ⟨_, z⟩
    · obtain ⟨w, z⟩ := I.cell y c h1
      exact ⟨w, z.keeps kp⟩
    · exact ⟨_, z⟩
  · show H cenv.locals = none
    rw [hL]; exact I.hok.fresh (Nat.le_refl _)
  · have e : cenv.cells.lookup y = some c := e
    rcases mem e with ⟨h1, _⟩ | ⟨h1, _⟩
    · exact I.freeC y c h1
    · exact I.hok.fresh (Nat.le_of_succ_le h1)
  · exact absurd (show p ∈ ([] : List (Addr × Obj)) ++ [] from hp) (by simp)

/-- an item appended to a tracked list -/
theorem app_ok {E : Value → Shared → Prop} {D : Addr} {xs : List V} {y : V} {v : Value} {Q : Value → Shared → Prop} (I : Inv X pins σ H s) (hD : H D = some (.lst xs)) (hz : xs.length < sizeLine) (r : RelV y v)
    (h : ∀ s', Inv X pins σ (upd H D (.lst (xs ++ [y]))) s' → Q .none s') : wpAny (model X.prog X.w) X.A (call (.builtin "list.append") [.ref D, v]) Q E s := by
  obtain ⟨hz', its, n, ri, e⟩ := I.hok D _ hD
  have hl := ri.length
  refine append_at (hsz := by rw [List.size_toArray]; omega) e fun h' sb ho' => ?_
  refine h { s with heap := h' } (I.write (t' := s.toks) (by rw [hD]; trivial) (.inl rfl) (fun b u hb q => (sb.2 b hb).trans q) ⟨_, ho'⟩ ⟨by rw [List.length_append]; exact hz, its ++ [v], n + 1, ri.append (.cons r .nil), ?_⟩)
  rw [ho']
  simp

/-- a clause's tests -/
def PTs (X : Cx) (ifs : List Expr) (t : TT) : Prop :=
  ∀ (pins : List (Addr × Obj)) (s : Shared) (σ : St) (H : Hp) (Q : Bool → Hp → Prop), Inv X pins σ H s → t σ H Q →
    wpAny (model X.prog X.w) X.A (forIn ifs true fun c r => if r = true then do let ok ← isTrue c X.env (eval c X.env); pure (ForInStep.yield ok) else pure (ForInStep.yield r)) (TP X pins σ Q) X.xe s
def tYes : TT := fun _ H Q => Q true H
theorem pts_nil : PTs X [] tYes := fun _ _ _ H _ I h => wpAny_tests_nil ⟨H, I, h⟩
theorem pts_one {c : Expr} {t : TT} (h : PT X c t) : PTs X [c] t := fun pins s σ H Q I hw => wpAny_tests_one (h pins s σ H Q I hw)
end

theorem thnF {α : Type} {t : Sem α} {Q Q' : α → Shared → Prop} {M : Model} {A : Around} {E : Value → Shared → Prop} {s : Shared} (h : wpAny M A t Q (fun _ _ => False) s) (hQ : ∀ a s, Q a s → Q' a s) : wpAny M A t Q' E s := wpAny_mono h hQ fun _ _ z => False.elim z

/-- the loop of a list comprehension's block, the target of any form (codeAny_compLoop_tests asks a target that no tuple goes to; statement and proof follow it, PyProof/CompMap.lean:41-61, with the step letOwnedTupleGo kept) -/
theorem compLoop_any {prog : Program} {w : World} {A : Around} {R : Result → Shared → Prop} {s : Shared} {elt target iter : Expr} {ifs : List Expr} {scope : Scope} {pos : Pos} {it acc : Value} {env : Env} (I : Nat → Shared → Prop)
    (turn : ∀ n s, I n s → wpAny (model prog w) A (pyNext it) (fun r s₁ => match r with
      | none => R (.ok .next) s₁
      | some v => wpAny (model prog w) A (letOwnedTupleGo target it v) (fun _ s₁' => wpAny (model prog w) A (assign target env v) (fun _ s₂ =>
          wpAny (model prog w) A (forIn ifs true fun c r => if r = true then do let ok ← isTrue c env (eval c env); pure (ForInStep.yield ok) else pure (ForInStep.yield r)) (fun ok s₃ =>
            if ok = true then wpAny (model prog w) A (eval elt env) (fun x s₄ =>
              wpAny (model prog w) A (call (.builtin "list.append") [acc, x]) (fun _ s₅ => ∃ m, m < n ∧ I m s₅) (notedBy (model prog w) A env fun e s' => R (.error e) s') s₄) (notedBy (model prog w) A env fun e s' => R (.error e) s') s₃
            else ∃ m, m < n ∧ I m s₃) (notedBy (model prog w) A env fun e s' => R (.error e) s') s₂) (notedBy (model prog w) A env fun e s' => R (.error e) s') s₁') (notedBy (model prog w) A env fun e s' => R (.error e) s') s₁) (notedBy (model prog w) A env fun e s' => R (.error e) s') s)
    (n : Nat) (h : I n s) :
    codeAny (model prog w) A (.compLoop (.ListComp elt [⟨target, iter, ifs, 0⟩] scope pos) 0 it acc env) R s := by
  refine codeAny_loop rfl I (fun n s hI => ?_) n h
  show wpAny _ A ((compTurn (.ListComp elt [⟨target, iter, ifs, 0⟩] scope pos) 0 it acc env).onRaise (fun x => do noteFrame x env; theTreesLotGoes x)) _ _ s
  refine wpAny_noted ?_
  rw [compTurn_list]
  refine wpAny_bind (wpAny_standAt (wpAny_bind (wpAny_mono (turn n s hI) (fun r s₁ h₁ => ?_) fun _ _ h' => h')))
  cases r with
  | none => exact wpAny_pure h₁
  | some v =>
    refine wpAny_bind (wpAny_mono h₁ (fun _ s₁' h₁' => ?_) fun _ _ h' => h')
    refine wpAny_bind (wpAny_mono h₁' (fun _ s₂ h₂ => wpAny_bind (wpAny_mono h₂ (fun ok s₃ h₃ => ?_) fun _ _ h' => h')) fun _ _ h' => h')
    cases ok with
    | false => exact wpAny_pure ⟨rfl, h₃⟩
    | true =>
      exact wpAny_bind (wpAny_bind (wpAny_mono h₃ (fun x s₄ h₄ => wpAny_bind (wpAny_mono h₄ (fun _ s₅ h₅ => wpAny_pure (wpAny_pure ⟨rfl, h₅⟩)) fun _ _ h' => h')) fun _ _ h' => h'))

section
variable {X : Cx}
/-- [elt for target in iter if ..]: D the new list; W by the turn and a measure, Nx what a turn is to reach -/
def tLc (wi : TI) (g : TG) (tt : TT) (te : TE) (vs : List Nat) : TE := fun σ H Q => wi σ H fun J H1 => ∀ D, H1 D = none → ∃ W : Nat → Nat → Hp → Prop, (∃ m, W 0 m (upd H1 D (.lst []))) ∧ ∀ i m H, W i m H →
  (J.stop i H ∧ Q (.ref D) H) ∨ (J.go i H ∧ ∃ Nx : Hp → Prop, (∀ H', Nx H' → ∃ m', m' < m ∧ W (i + 1) m' H') ∧ ∀ x H', J.yld i H x H' → g x (wipe σ vs) H' fun σ2 H2 => wipe σ2 vs = wipe σ vs ∧ tt σ2 H2 fun b H3 =>
    if b = true then te σ2 H3 fun y H4 => ∃ acc, H4 D = some (.lst acc) ∧ acc.length < sizeLine ∧ Nx (upd H4 D (.lst (acc ++ [y]))) else Nx H3)
theorem lc_core {pins : List (Addr × Obj)} {s : Shared} {σ : St} {H : Hp} {Q : VK} {elt tg iter : Expr} {ifs : List Expr} {scope : Scope} {own : List (Str × Nat)} {pos pos' : Pos} {wi : TI} {g : TG} {tt : TT} {te : TE} {use : Option (Value → Sem Unit)} {Qf : Value → Shared → Prop}
    (hc : X.calm = true) (hN : X.N.Nodup) (I : Inv X pins σ H s) (hi : PI X tg iter wi) (ok : BlkOk X.N X.env.scope scope own)
    (hg : ∀ (s : Shared) (H : Hp) (C : Addr) (cl : List (Str × Addr)) (fp : List Addr), PG (X.blk s H scope (compEnvC scope cl C X.env) fp) tg g) (ht : ∀ (s : Shared) (H : Hp) (C : Addr) (cl : List (Str × Addr)) (fp : List Addr), PTs (X.blk s H scope (compEnvC scope cl C X.env) fp) ifs tt)
    (he : ∀ (s : Shared) (H : Hp) (C : Addr) (cl : List (Str × Addr)) (fp : List Addr), PE (X.blk s H scope (compEnvC scope cl C X.env) fp) elt te) (hs : ∀ x, foldedSetIterable iter X.env x = pure x)
    (h : tLc wi g tt te (own.map (·.2)) σ H Q)
    (hRR : ∀ D C s' m H', Inv X pins σ H' s' → Q (.ref D) H' → s'.heap.Ns C m → FpOk X pins H' C → compPost (model X.prog X.w) X.A X.xe use Qf (.ref D) C (.ok .next) s') :
    wpAny (model X.prog X.w) X.A (comprehension (.ListComp elt [⟨tg, iter, ifs, 0⟩] scope pos) scope X.env pos' (newList []) false (eval iter X.env) use) Qf X.xe s := by
  have hfree : ∀ y ∈ scope.names, y.2 = .free → ∃ c, X.env.cells.lookup y.1 = some c := fun y hy e => by
    rcases ok.free y hy e with k | k
    · exact I.ok.has _ (.inl k)
    · exact I.ok.has _ (.inr k)
  refine wpAny_comprehension_free (use := use) rfl hs (closure_ok hfree) ok.kind (fun y hy e => by rw [ok.uniq y hy, e])
    (thn (hi pins s σ H _ I h) fun xv s1 hx => thn hx fun itv s2 h2 => ?_)
  obtain ⟨it, fp, tn, J, H2, e, I2, T, st2, f2, q⟩ := h2
  subst e
  refine wpAny_newObj_type (newEnv_comp ?_) (by show 0 ≤ sizeLine; decide)
  generalize hD : s2.heap.objs.size = D
  have hDn : H2 D = none := I2.hok.fresh (Nat.le_of_eq hD)
  obtain ⟨W, ⟨m0, w0⟩, turn⟩ := q D hDn
  -- the new list
  generalize hs3 : ({ s2 with heap := s2.heap.push { cls := .type "list", data := .seq ([] : List Value).toArray } } : Shared) = s3
  have I3 : Inv X pins σ (upd H2 D (.lst [])) s3 := by
    rw [← hs3]
    refine I2.laid (t' := s2.toks) (fun b o e => Heap.get?_push_of_some _ e) (Nat.le_of_eq hD) ⟨Nat.zero_le _, [], 0, .nil, ?_⟩
    rw [← hD]
    exact Heap.get?_push_size _ rfl
  have h3 : s3.heap = s2.heap.push { cls := .type "list", data := .seq ([] : List Value).toArray } := by rw [← hs3]
  have sz : ∀ b ∈ fp, b < s2.heap.objs.size := fun b hb => by
    obtain ⟨o, e, _⟩ := T.obj _ _ st2 b hb
    exact Heap.lt_size e
  have f3 : ∀ b ∈ fp, FpOk X pins (upd H2 D (.lst [])) b ∧ b < s3.heap.objs.size := fun b hb => by
    have hlt := sz b hb
    refine ⟨⟨?_, (f2 b hb).2⟩, by rw [h3, Heap.size_push]; exact Nat.lt_succ_of_lt hlt⟩
    rw [upd_ne (by rw [← hD]; exact Nat.ne_of_lt hlt)]
    exact (f2 b hb).1
  have st3 : tn 0 s3.heap := T.keep _ _ _ st2 fun b _ o e => by rw [h3]; exact Heap.get?_push_of_some _ e
  have I4 := block_start I3 ok hN f3
  have pg := hg s3 (upd H2 D (.lst [])) s3.heap.objs.size (cellsFrom (s3.heap.objs.size + 1) scope.names (cloFrom X.env.cells scope.names [])) fp
  have pt := ht s3 (upd H2 D (.lst [])) s3.heap.objs.size (cellsFrom (s3.heap.objs.size + 1) scope.names (cloFrom X.env.cells scope.names [])) fp
  have pe := he s3 (upd H2 D (.lst [])) s3.heap.objs.size (cellsFrom (s3.heap.objs.size + 1) scope.names (cloFrom X.env.cells scope.names [])) fp
  show codeAny _ _ (.compStart (.ListComp elt [⟨tg, iter, ifs, 0⟩] scope pos) 0 (.ref it) (.ref D) (compEnvC scope (cellsFrom (s3.heap.objs.size + 1) scope.names (cloFrom X.env.cells scope.names [])) s3.heap.objs.size X.env)) (compPost (model X.prog X.w) X.A X.xe use Qf (.ref D) s3.heap.objs.size) { s3 with heap := pushCells (s3.heap.push { cls := .type "dict", data := .dict #[] }) scope.names }
  have nfp : ∀ b ∈ fp, (upd H2 D (.lst [])) b = none := fun b hb => (f3 b hb).1.1
  generalize hce : compEnvC scope (cellsFrom (s3.heap.objs.size + 1) scope.names (cloFrom X.env.cells scope.names [])) s3.heap.objs.size X.env = ce at I4 pg pt pe ⊢
  have cL : ce.locals = s3.heap.objs.size := by subst hce; rfl
  generalize hH3 : upd H2 D (.lst []) = H3 at I3 I4 pg pt pe w0 nfp f3
  generalize hs4 : ({ s3 with heap := pushCells (s3.heap.push { cls := .type "dict", data := .dict #[] }) scope.names } : Shared) = s4 at I4 ⊢
  have st4 : tn 0 s4.heap := T.keep _ _ _ st3 fun b _ o e => by rw [← hs4]; exact pushCells_keeps _ _ _ _ (Heap.get?_push_of_some _ e)
  have stat : ∀ {σ' : St} {H' : Hp} {s' : Shared}, Inv (X.blk s3 H3 scope ce fp) [] σ' H' s' → (∀ b ∈ fp, H' b = none) → ∀ b ∈ fp, FpOk (X.blk s3 H3 scope ce fp) [] H' b := fun {σ' H' s'} I' hn b hb =>
    ⟨hn b hb, (I'.ok.exf b hb).1, I'.ok.exfs b hb, .inl hb, fun x c e => (I'.ok.exf b hb).2 x c e, fun p hp => absurd (show p ∈ ([] : List (Addr × Obj)) ++ [] from hp) (by simp)⟩
  have loop : codeAny (model X.prog X.w) X.A (.compLoop (.ListComp elt [⟨tg, iter, ifs, 0⟩] scope pos) 0 (.ref it) (.ref D) ce) (compPost (model X.prog X.w) X.A X.xe use Qf (.ref D) s3.heap.objs.size) s4 := by
    refine compLoop_any (fun n s' => ∃ i H', Inv (X.blk s3 H3 scope ce fp) [] (wipe σ (own.map (·.2))) H' s' ∧ tn i s'.heap ∧ (∀ b ∈ fp, H' b = none) ∧ W i n H') ?_ m0 ⟨0, H3, I4, st4, nfp, w0⟩
    rintro n s5 ⟨i, H5, I5, st5, n5, w5⟩
    rcases turn i n H5 w5 with ⟨stop, qq⟩ | ⟨go, Nx, hNx, step⟩
    · have td := T.done (X.blk s3 H3 scope ce fp) rfl rfl rfl hc i [] s5 _ H5 (fun _ _ => False) I5 (stat I5 n5) st5 stop
      refine thnF td fun r s6 ⟨hr, I6⟩ => ?_
      subst hr
      -- back in the def's context
      have I7 : Inv X pins σ H5 s6 := I3.call' (ch := fp) I6.os I6.base I6.hok I6.bare fun b hb => ⟨(f3 b hb).1.2.2.2.1, (f3 b hb).1.2.1, (f3 b hb).1.2.2.2.2.1, (f3 b hb).1.2.2.2.2.2⟩
      have nC : H5 s3.heap.objs.size = none := by
        have z : H5 ce.locals = none := I6.free
        rw [cL] at z
        exact z
      obtain ⟨m, hn, _⟩ := I6.loc
      have hn : s6.heap.Ns ce.locals m := hn
      rw [cL] at hn
      exact hRR D s3.heap.objs.size s6 m H5 I7 qq hn (I3.fpOk (Nat.le_refl _) nC)
    · have ti := T.item (X.blk s3 H3 scope ce fp) rfl rfl rfl hc i [] s5 _ H5 (fun _ _ => False) I5 (stat I5 n5) st5 go
      refine thnF ti fun r s6 ⟨u, hr, h6⟩ => ?_
      subst hr
      refine thnF h6 fun _ s7 ⟨x, H7, I7, r7, y7, st7, n7⟩ => ?_
      have I7' := I7.pinned (stat I7 n7) (T.obj _ _ st7)
      refine thnF (pg _ s7 _ H7 x u _ I7' r7 (step x H7 y7)) fun _ s8 ⟨σ8, H8, I8, hw8, q8⟩ => ?_
      refine thnF (pt _ s8 σ8 H8 _ I8 q8) fun b s9 ⟨H9, I9, q9⟩ => ?_
      -- the turn's end
      have fin : ∀ {s' : Shared} {H' : Hp}, Inv (X.blk s3 H3 scope ce fp) ([] ++ pinsAt fp s7.heap) σ8 H' s' → Nx H' → ∃ m, m < n ∧ ∃ i H', Inv (X.blk s3 H3 scope ce fp) [] (wipe σ (own.map (·.2))) H' s' ∧ tn i s'.heap ∧ (∀ b ∈ fp, H' b = none) ∧ W i m H' := fun {s' H'} I' nx => by
        obtain ⟨m', hm, w'⟩ := hNx H' nx
        have pin' : ∀ b ∈ fp, ∀ o, s7.heap.get? b = some o → s'.heap.get? b = some o ∧ H' b = none := fun b hb o e =>
          let z := I'.pin (b, o) (List.mem_append_right _ (List.mem_append_right _ (mem_pinsAt hb e)))
          ⟨z.1, z.2.1⟩
        have hl : (wipe σ (own.map (·.2))).length = σ8.length := by rw [← hw8, wipe_length]
        refine ⟨m', hm, i + 1, H', (I'.unpinned (pins := [])).weak hl (fun j v e => ?_), T.keep _ _ _ st7 fun b hb o e => (pin' b hb o e).1, fun b hb => ?_, w'⟩
        · rw [← hw8] at e
          exact (wipe_some e).1
        · obtain ⟨o, e, _⟩ := T.obj _ _ st7 b hb
          exact (pin' b hb o e).2
      cases b with
      | false =>
        simp only [Bool.false_eq_true, if_false] at q9 ⊢
        exact fin I9 q9
      | true =>
        simp only [if_true] at q9 ⊢
        refine thnF (pe _ s9 σ8 H9 _ I9 q9) fun z s10 ⟨yv, H10, I10, r10, acc, hD10, hz10, nx⟩ => ?_
        exact app_ok (X := X.blk s3 H3 scope ce fp) I10 hD10 hz10 r10 fun s11 I11 => fin I11 nx
  exact codeAny_compStart_list loop (T.self X.A 0 _ _ _ st4 loop)
/-- as a value -/
theorem pe_lc {elt tg iter : Expr} {ifs : List Expr} {scope : Scope} {own : List (Str × Nat)} {pos : Pos} {wi : TI} {g : TG} {tt : TT} {te : TE} (hc : X.calm = true) (hN : X.N.Nodup) (hi : PI X tg iter wi) (ok : BlkOk X.N X.env.scope scope own)
    (hg : ∀ (s : Shared) (H : Hp) (C : Addr) (cl : List (Str × Addr)) (fp : List Addr), PG (X.blk s H scope (compEnvC scope cl C X.env) fp) tg g) (ht : ∀ (s : Shared) (H : Hp) (C : Addr) (cl : List (Str × Addr)) (fp : List Addr), PTs (X.blk s H scope (compEnvC scope cl C X.env) fp) ifs tt)
    (he : ∀ (s : Shared) (H : Hp) (C : Addr) (cl : List (Str × Addr)) (fp : List Addr), PE (X.blk s H scope (compEnvC scope cl C X.env) fp) elt te) (hs : ∀ x, foldedSetIterable iter X.env x = pure x := by intro _; rfl) :
    PE X (.ListComp elt [⟨tg, iter, ifs, 0⟩] scope pos) (tLc wi g tt te (own.map (·.2))) := by
  intro pins s σ H Q I h
  rw [eval_ListComp]
  refine lc_core hc hN I hi ok hg ht he hs h fun D C s' m H' I' q hn f => ⟨m, hn, fun h'' sb => ?_⟩
  obtain ⟨f0, f1, f2, f3, f4, f5⟩ := f
  exact ⟨.ref D, H', I'.turned (t' := s'.toks) (fun b o hb e => (sb.2 b hb).trans e) f0 f1 f3 f4 f5, rfl, q⟩
/-- name = [..] on one line, the name a local -/
theorem ps_setLc {i : Nat} {y : Str} {py : Pos} {elt tg iter : Expr} {ifs : List Expr} {scope : Scope} {own : List (Str × Nat)} {pos spos : Pos} {wi : TI} {g : TG} {tt : TT} {te : TE} (hc : X.calm = true) (hN : X.N.Nodup) (hy : X.N[i]? = some y) (hyl : X.env.scope.names.lookup y = some .local)
    (hsw : swapsWith (.ListComp elt [⟨tg, iter, ifs, 0⟩] scope pos) (some (.Name y py)) spos.line X.env = pure true) (hi : PI X tg iter wi) (ok : BlkOk X.N X.env.scope scope own)
    (hg : ∀ (s : Shared) (H : Hp) (C : Addr) (cl : List (Str × Addr)) (fp : List Addr), PG (X.blk s H scope (compEnvC scope cl C X.env) fp) tg g) (ht : ∀ (s : Shared) (H : Hp) (C : Addr) (cl : List (Str × Addr)) (fp : List Addr), PTs (X.blk s H scope (compEnvC scope cl C X.env) fp) ifs tt)
    (he : ∀ (s : Shared) (H : Hp) (C : Addr) (cl : List (Str × Addr)) (fp : List Addr), PE (X.blk s H scope (compEnvC scope cl C X.env) fp) elt te) (hs : ∀ x, foldedSetIterable iter X.env x = pure x := by intro _; rfl) :
    PS X (.Assign [.Name y py] (.ListComp elt [⟨tg, iter, ifs, 0⟩] scope pos) spos) (tAsg (tLc wi g tt te (own.map (·.2))) (gName i)) := by
  intro pins s σ H D I h
  rw [exec_Assign_Name_used _ _ _ _ hsw]
  refine wpAny_bind (wpAny_standAt (wpAny_bind ?_))
  show wpAny _ X.A (do let _ ← comprehension (.ListComp elt [⟨tg, iter, ifs, 0⟩] scope pos) scope X.env (firstIterPos [⟨tg, iter, ifs, 0⟩] pos) (newList []) false (eval iter X.env) (some (assign (.Name y py) X.env))) _ _ s
  have h : tLc wi g tt te (own.map (·.2)) σ H (fun x H1 => gName i x σ H1 D.nx) := h
  refine wpAny_bind (thn (lc_core (Qf := fun _ s' => SP X pins D .next s') hc hN I hi ok hg ht he hs h fun L C s' m H' I' q hn f => ?_) fun _ s' hq => wpAny_pure (wpAny_pure hq))
  show wpAny _ _ (assign (.Name y py) X.env (.ref L)) _ _ _
  refine wpAny_assign_Name (store_ok2 (v := V.ref L) I' hN hy (.inl hyl) rfl (fun s2 I2 ⟨a, sb, ha⟩ => ?_) (.inr hyl))
  obtain ⟨f0, f1, f2, f3, f4, f5⟩ := f
  have haC : C ≠ a := by
    rcases ha with z | z
    · rw [z]; exact f1
    · exact fun e => f4 y a z e.symm
  refine ⟨m, hn.sameBut sb haC, fun h3 sb3 => ?_⟩
  exact ⟨_, H', I2.turned (t' := s2.toks) (fun b o hb e => (sb3.2 b hb).trans e) f0 f1 f3 f4 f5, q⟩
theorem sw_true {elt : Expr} {gs : List Comprehension} {scope : Scope} {pos py : Pos} {y : Str} {l : Nat} {env : Env} (hk : env.scope.kind = .function) (hy : env.scope.names.lookup y = some .local) (hl : (py.line == pos.line) = true)
    (ha : (scope.names.any fun (n, k) => n == y && (k == .local || k == .cell)) = false) : swapsWith (.ListComp elt gs scope pos) (some (.Name y py)) l env = pure true := by
  have ky : env.kindOf y = some .local := hy
  have hb : env.blockKind = .function := by unfold Env.blockKind; rw [hk]; rfl
  unfold swapsWith
  simp only [hb, ky, ha, Expr.pos, hl]
  rfl
end

/-! ### the forms one uses -/
/-- over a range: Pv by the turn and the heap (the new list at D within) -/
theorem lc_range {lo : Int} {n : Nat} {g : TG} {tt : TT} {te : TE} {vs : List Nat} {σ : St} {H1 : Hp} {D : Addr} {Qd : Hp → Prop} (Pv : Nat → Hp → Prop) (h0 : Pv 0 (upd H1 D (.lst [])))
    (hs : ∀ i H, i < n → Pv i H → g (.int (lo + i)) (wipe σ vs) H fun σ2 H2 => wipe σ2 vs = wipe σ vs ∧ tt σ2 H2 fun b H3 =>
      if b = true then te σ2 H3 fun y H4 => ∃ acc, H4 D = some (.lst acc) ∧ acc.length < sizeLine ∧ Pv (i + 1) (upd H4 D (.lst (acc ++ [y]))) else Pv (i + 1) H3) (hd : ∀ H, Pv n H → Qd H) :
    ∃ W : Nat → Nat → Hp → Prop, (∃ m, W 0 m (upd H1 D (.lst []))) ∧ ∀ i m H, W i m H →
      ((Itr lo n).stop i H ∧ Qd H) ∨ ((Itr lo n).go i H ∧ ∃ Nx : Hp → Prop, (∀ H', Nx H' → ∃ m', m' < m ∧ W (i + 1) m' H') ∧ ∀ x H', (Itr lo n).yld i H x H' → g x (wipe σ vs) H' fun σ2 H2 => wipe σ2 vs = wipe σ vs ∧ tt σ2 H2 fun b H3 =>
        if b = true then te σ2 H3 fun y H4 => ∃ acc, H4 D = some (.lst acc) ∧ acc.length < sizeLine ∧ Nx (upd H4 D (.lst (acc ++ [y]))) else Nx H3) := by
  refine ⟨fun i m H => m = n - i ∧ i ≤ n ∧ Pv i H, ⟨n, by simp, Nat.zero_le _, h0⟩, ?_⟩
  rintro i m H ⟨rfl, hi, p⟩
  by_cases hlt : i < n
  · refine .inr ⟨hlt, Pv (i + 1), fun H' p' => ⟨n - (i + 1), by omega, rfl, hlt, p'⟩, fun x H' y => ?_⟩
    obtain ⟨e, y⟩ := y
    subst e y
    exact hs i _ hlt p
  · have e : i = n := by omega
    subst e
    exact .inl ⟨Nat.le_refl _, hd H p⟩
/-- over a list that the block leaves as it is -/
theorem lc_list {K : PySem.W.Frag} {a : Addr} {xs : List V} {g : TG} {tt : TT} {te : TE} {vs : List Nat} {σ : St} {H1 : Hp} {D : Addr} {Qd : Hp → Prop} (Pv : Nat → Hp → Prop) (h0 : Pv 0 (upd H1 D (.lst []))) (hl : ∀ i H, i ≤ xs.length → Pv i H → SqL K H a xs)
    (hs : ∀ i x H, xs[i]? = some x → Pv i H → g x (wipe σ vs) H fun σ2 H2 => wipe σ2 vs = wipe σ vs ∧ tt σ2 H2 fun b H3 =>
      if b = true then te σ2 H3 fun y H4 => ∃ acc, H4 D = some (.lst acc) ∧ acc.length < sizeLine ∧ Pv (i + 1) (upd H4 D (.lst (acc ++ [y]))) else Pv (i + 1) H3) (hd : ∀ H, Pv xs.length H → Qd H) :
    ∃ W : Nat → Nat → Hp → Prop, (∃ m, W 0 m (upd H1 D (.lst []))) ∧ ∀ i m H, W i m H →
      ((Itl K a).stop i H ∧ Qd H) ∨ ((Itl K a).go i H ∧ ∃ Nx : Hp → Prop, (∀ H', Nx H' → ∃ m', m' < m ∧ W (i + 1) m' H') ∧ ∀ x H', (Itl K a).yld i H x H' → g x (wipe σ vs) H' fun σ2 H2 => wipe σ2 vs = wipe σ vs ∧ tt σ2 H2 fun b H3 =>
        if b = true then te σ2 H3 fun y H4 => ∃ acc, H4 D = some (.lst acc) ∧ acc.length < sizeLine ∧ Nx (upd H4 D (.lst (acc ++ [y]))) else Nx H3) := by
  refine ⟨fun i m H => m = xs.length - i ∧ i ≤ xs.length ∧ Pv i H, ⟨xs.length, by simp, Nat.zero_le _, h0⟩, ?_⟩
  rintro i m H ⟨rfl, hi, p⟩
  have q := hl i H hi p
  by_cases hlt : i < xs.length
  · refine .inr ⟨⟨xs, xs[i], q, by simp [hlt]⟩, Pv (i + 1), fun H' p' => ⟨xs.length - (i + 1), by omega, rfl, hlt, p'⟩, fun x H' y => ?_⟩
    obtain ⟨e, y⟩ := y
    subst e
    exact hs i x _ (y xs q) p
  · have e : i = xs.length := by omega
    subst e
    exact .inl ⟨⟨xs, q, Nat.le_refl _⟩, hd H p⟩
def blkC (N : List Str) (sc scope : Scope) (own : List (Str × Nat)) : Bool :=
  (match scope.kind with | .function => true | _ => false) && (scope.names.all fun y => decide (scope.names.lookup y.1 = some y.2)) && (own.all fun p => decide (N[p.2]? = some p.1)) &&
    (scope.names.all fun y => match y.2 with
      | .free => (match sc.names.lookup y.1 with | some .cell => true | some .free => true | _ => false)
      | .local => decide (y.1 ∈ own.map (·.1)) || decide (y.1 ∉ N)
      | .cell => decide (y.1 ∈ own.map (·.1)) || decide (y.1 ∉ N)
      | _ => true)
theorem blkOk_by {N : List Str} {sc scope : Scope} {own : List (Str × Nat)} (h : blkC N sc scope own = true) : BlkOk N sc scope own := by
  unfold blkC at h
  simp only [Bool.and_eq_true, List.all_eq_true, decide_eq_true_eq] at h
  obtain ⟨⟨⟨h1, h2⟩, h3⟩, h4⟩ := h
  refine ⟨?_, h2, h3, fun y hy e => ?_, fun y hy e => ?_⟩
  · split at h1
    · assumption
    · cases h1
  · have q := h4 y hy
    simp only [e] at q
    split at q <;> first | exact .inl (by assumption) | exact .inr (by assumption) | cases q
  · have q := h4 y hy
    rcases e with e | e <;> (simp only [e, Bool.or_eq_true, decide_eq_true_eq] at q; exact q)
end L2

namespace L2
open PySem PySem.Spec PyProof.Rows



end L2

namespace L2
open PySem PySem.Spec PyProof.Rows

/-! ### lists of pairs as tables -/
section
variable {κ : Type} [DecidableEq κ]
def valV (kvs : List (κ × V)) (k : κ) : Option V := (kvs.find? fun kv => decide (kv.1 = k)).map (·.2)
/-- in its place, or at the end -/
def putK (kvs : List (κ × V)) (k : κ) (v : V) : List (κ × V) :=
  if (kvs.any fun kv => decide (kv.1 = k)) = true then kvs.map (fun kv => if kv.1 = k then (kv.1, v) else kv) else kvs ++ [(k, v)]

theorem valV_pos {p : κ × V} {r : List (κ × V)} {k : κ} (e : p.1 = k) : valV (p :: r) k = some p.2 := by simp [valV, List.find?_cons, e]
theorem valV_neg {p : κ × V} {r : List (κ × V)} {k : κ} (e : ¬ p.1 = k) : valV (p :: r) k = valV r k := by simp [valV, List.find?_cons, e]
theorem valV_any (k : κ) : ∀ kvs : List (κ × V), (kvs.any fun kv => decide (kv.1 = k)) = (valV kvs k).isSome
  | [] => rfl
  | p :: r => by
    rw [List.any_cons]
    by_cases e : p.1 = k
    · simp only [valV_pos e, decide_eq_true e, Bool.true_or, Option.isSome_some]
    · rw [valV_neg e, decide_eq_false e, Bool.false_or]; exact valV_any k r
theorem valV_map (k j : κ) (y : V) : ∀ kvs : List (κ × V), valV (kvs.map fun kv => if kv.1 = k then (kv.1, y) else kv) j = (valV kvs j).map fun x => if j = k then y else x
  | [] => rfl
  | p :: r => by
    have ih := valV_map k j y r
    rw [List.map_cons]
    by_cases h : p.1 = k
    · rw [if_pos h]
      by_cases e : p.1 = j
      · rw [valV_pos (p := (p.1, y)) e, valV_pos e, Option.map_some, if_pos (e.symm.trans h)]
      · rw [valV_neg (p := (p.1, y)) e, valV_neg e, ih]
    · rw [if_neg h]
      by_cases e : p.1 = j
      · rw [valV_pos (p := p) e, valV_pos e, Option.map_some, if_neg (fun z => h (e.trans z))]
      · rw [valV_neg (p := p) e, valV_neg e, ih]
theorem valV_snoc (k j : κ) (y : V) : ∀ kvs : List (κ × V), valV kvs k = none → valV (kvs ++ [(k, y)]) j = if j = k then some y else valV kvs j
  | [], _ => by
    by_cases e : k = j
    · rw [if_pos e.symm]; exact valV_pos (p := (k, y)) e
    · rw [if_neg (fun z => e z.symm)]; exact valV_neg (p := (k, y)) e
  | p :: r, hn => by
    rw [List.cons_append]
    have hk : ¬ p.1 = k := fun z => by rw [valV_pos z] at hn; cases hn
    rw [valV_neg hk] at hn
    have ih := valV_snoc k j y r hn
    by_cases e : p.1 = j
    · rw [valV_pos e, valV_pos e, if_neg (fun z => hk (e.trans z))]
    · rw [valV_neg e, valV_neg e, ih]
theorem valV_put (kvs : List (κ × V)) (k j : κ) (y : V) : valV (putK kvs k y) j = if j = k then some y else valV kvs j := by
  unfold putK
  by_cases a : (kvs.any fun kv => decide (kv.1 = k)) = true
  · rw [if_pos a, valV_map]
    rw [valV_any] at a
    by_cases e : j = k
    · obtain ⟨x, hx⟩ := Option.isSome_iff_exists.mp a
      rw [if_pos e, e, hx, Option.map_some, if_pos rfl]
    · rw [if_neg e]
      cases valV kvs j with
      | none => rfl
      | some x => rw [Option.map_some, if_neg e]
  · rw [if_neg a]
    refine valV_snoc k j y kvs ?_
    rw [valV_any] at a
    cases q : valV kvs k with
    | none => rfl
    | some x => rw [q] at a; exact (a rfl).elim
theorem length_putK (kvs : List (κ × V)) (k : κ) (v : V) : (putK kvs k v).length ≤ kvs.length + 1 := by
  unfold putK
  split
  · rw [List.length_map]; omega
  · rw [List.length_append, List.length_cons, List.length_nil]; omega

theorem RelO.isSome_eq {o : Option V} {u : Option Value} (r : RelO o u) : o.isSome = u.isSome := by
  cases o with
  | none => cases u with
    | none => rfl
    | some _ => exact (show False from r).elim
  | some _ => cases u with
    | none => exact (show False from r).elim
    | some _ => rfl

/-- raw tables of the same keys -/
theorem KV.val {kvs : List (κ × V)} {vs : List (κ × Value)} (r : KV kvs vs) (k : κ) : RelO (valV kvs k) (valueAt vs k) := by
  unfold KV at r
  induction r with
  | nil => exact True.intro
  | @cons p q ps qs h t ih =>
    obtain ⟨h1, h2⟩ := h
    by_cases e : p.1 = k
    · have e' : q.1 = k := h1.symm.trans e
      have b : valueAt (q :: qs) k = some q.2 := by simp [valueAt, List.find?_cons, e']
      rw [valV_pos e, b]; exact h2
    · have e' : ¬ q.1 = k := fun z => e (h1.trans z)
      have b : valueAt (q :: qs) k = valueAt qs k := by simp [valueAt, List.find?_cons, e']
      rw [valV_neg e, b]; exact ih
theorem KV.any {kvs : List (κ × V)} {vs : List (κ × Value)} (r : KV kvs vs) (k : κ) : (kvs.any fun kv => decide (kv.1 = k)) = vs.any fun kv => decide (kv.1 = k) := by
  unfold KV at r
  induction r with
  | nil => rfl
  | cons h t ih => rw [List.any_cons, List.any_cons, ih, h.1]
theorem KV.repl {kvs : List (κ × V)} {vs : List (κ × Value)} (r : KV kvs vs) (k : κ) {y : V} {u : Value} (ry : RelV y u) :
    KV (kvs.map fun kv => if kv.1 = k then (kv.1, y) else kv) (vs.map fun kv => if kv.1 = k then (kv.1, u) else kv) := by
  unfold KV at r ⊢
  induction r with
  | nil => exact .nil
  | @cons p q ps qs h t ih =>
    rw [List.map_cons, List.map_cons]
    refine .cons ?_ ih
    obtain ⟨h1, h2⟩ := h
    by_cases e : p.1 = k
    · rw [if_pos e, if_pos (h1.symm.trans e)]; exact ⟨h1, ry⟩
    · rw [if_neg e, if_neg (fun z => e (h1.trans z))]; exact ⟨h1, h2⟩
theorem KV.put {kvs : List (κ × V)} {vs : List (κ × Value)} (r : KV kvs vs) (k : κ) {y : V} {u : Value} (ry : RelV y u) : KV (putK kvs k y) (stored vs k u) := by
  unfold putK stored
  rw [r.any k]
  by_cases e : (vs.any fun kv => decide (kv.1 = k)) = true
  · rw [if_pos e, if_pos e]; exact r.repl k ry
  · rw [if_neg e, if_neg e]; exact Paired.snoc r ⟨rfl, ry⟩
theorem KV.length {kvs : List (κ × V)} {vs : List (κ × Value)} (r : KV kvs vs) : kvs.length = vs.length := Paired.length r
end


/-! ### a tracked dict, its keys ints and texts or tuples of these -/
theorem kV_is {P : Program} {w : World} {k : Key} {u : Value} (r : RelV (kV k) u) : (mixKind P w).is k u = true := by
  cases k with
  | inl i => obtain ⟨t, e⟩ := (show ∃ t, u = Value.int i t from r); subst e; exact mixKind_int P w i t
  | inr x => obtain ⟨t, e⟩ := (show ∃ t, u = Value.str x t from r); subst e; exact mixKind_str P w x t
theorem items_are {P : Program} {w : World} : ∀ {ks : List Key} {us : List Value}, Vals (ks.map kV) us → ItemsAre (mixKind P w) ks us
  | [], _, r => by rw [List.map_nil] at r; cases r; exact .nil
  | k :: ks, _, r => by
    rw [List.map_cons] at r
    cases r with
    | cons h t => exact .cons (kV_is h) (items_are t)

/-- raw entries of a dict with tuple keys -/
abbrev KT (H : Hp) : List (List Key × V) → List (List Key × Addr × Value) → Prop := Paired fun p q => p.1 = q.1 ∧ H q.2.1 = some (.tup (p.1.map kV)) ∧ RelV p.2 q.2.2
theorem KT.val {H : Hp} {kvs : List (List Key × V)} {xs : List (List Key × Addr × Value)} (r : KT H kvs xs) (k : List Key) : RelO (valV kvs k) ((atKey xs k).map (·.2)) := by
  induction r with
  | nil => exact True.intro
  | @cons p q ps qs h t ih =>
    obtain ⟨h1, _, h2⟩ := h
    by_cases e : p.1 = k
    · have e' : q.1 = k := h1.symm.trans e
      have b : atKey (q :: qs) k = some q.2 := by simp [atKey, List.find?_cons, e']
      rw [valV_pos e, b]; exact h2
    · have e' : ¬ q.1 = k := fun z => e (h1.trans z)
      have b : atKey (q :: qs) k = atKey qs k := by simp [atKey, List.find?_cons, e']
      rw [valV_neg e, b]; exact ih
theorem KT.repl {H : Hp} {kvs : List (List Key × V)} {xs : List (List Key × Addr × Value)} (r : KT H kvs xs) (k : List Key) {y : V} {u : Value} (ry : RelV y u) :
    KT H (kvs.map fun kv => if kv.1 = k then (kv.1, y) else kv) (xs.map (putAt k u)) := by
  induction r with
  | nil => exact .nil
  | @cons p q ps qs h t ih =>
    rw [List.map_cons, List.map_cons]
    refine .cons ?_ ih
    obtain ⟨h1, h2, h3⟩ := h
    unfold putAt
    by_cases e : p.1 = k
    · rw [if_pos e, if_pos (h1.symm.trans e)]; exact ⟨h1, h2, ry⟩
    · rw [if_neg e, if_neg (fun z => e (h1.trans z))]; exact ⟨h1, h2, h3⟩
theorem KT.put {H : Hp} {kvs : List (List Key × V)} {xs : List (List Key × Addr × Value)} (r : KT H kvs xs) (k : List Key) {b : Addr} {y : V} {u : Value} (hb : H b = some (.tup (k.map kV))) (ry : RelV y u) :
    KT H (putK kvs k y) (storedH xs k b u) := by
  have e : (kvs.any fun kv => decide (kv.1 = k)) = (atKey xs k).isSome := by
    rw [valV_any, (r.val k).isSome_eq, Option.isSome_map]
  unfold putK storedH
  rw [e]
  by_cases q : (atKey xs k).isSome = true
  · rw [if_pos q, if_pos q]; exact r.repl k ry
  · rw [if_neg q, if_neg q]; exact Paired.snoc r ⟨rfl, hb, ry⟩
theorem KT.keeps {H H' : Hp} {kvs : List (List Key × V)} {xs : List (List Key × Addr × Value)} (r : KT H kvs xs) (ht : ∀ b ys, H b = some (.tup ys) → H' b = some (.tup ys)) : KT H' kvs xs :=
  Paired.mapP r fun _ _ z => ⟨z.1, ht _ _ z.2.1, z.2.2⟩

section
variable {P : Program} {w : World} {H : Hp} {h : Heap} {a : Addr}
theorem rd_of {u : HO} (ok : HOk P w H h) (e : Rd H a u) : ObjOk P w H h a u := e.ok ok
theorem dk_rd {kvs : List (Key × V)} (ok : HOk P w H h) (e : Rd H a (.dK kvs)) : kvs.length ≤ sizeLine ∧ (a == sysModules) = false ∧ ∃ vs, KV kvs vs ∧ h.DictOf (mixKind P w) a vs :=
  show ObjOk P w H h a (.dK kvs) from rd_of ok e
theorem dk_of {kvs : List (Key × V)} (ok : HOk P w H h) (e : H a = some (.dK kvs)) : kvs.length ≤ sizeLine ∧ (a == sysModules) = false ∧ ∃ vs, KV kvs vs ∧ h.DictOf (mixKind P w) a vs := dk_rd ok (.inl e)
/-- a tracked tuple of ints and texts is a key -/
theorem key_of {ks : List Key} (ok : HOk P w H h) (e : H a = some (.tup (ks.map kV))) : (tupleKind (mixKind P w)).is h ks a := by
  obtain ⟨_, its, r, o, h1, h2, n, h3⟩ := (show ObjOk P w H h a (.tup (ks.map kV)) from ok a _ e)
  exact ⟨o, its.toArray, n, h1, h2, h3, by simpa using items_are r⟩
theorem dt_rd {kvs : List (List Key × V)} (ok : HOk P w H h) (e : Rd H a (.dT kvs)) : kvs.length ≤ sizeLine ∧ (a == sysModules) = false ∧
    ∃ xs, KT H kvs xs ∧ h.DictOfH (tupleKind (mixKind P w)) a xs := by
  obtain ⟨z, y, xs, r, o, es, ep, h1, h2, h3, h4, h5⟩ := (show ObjOk P w H h a (.dT kvs) from rd_of ok e)
  refine ⟨z, y, xs, r, o, es, ep, h1, h2, h3, h4, fun x hx => ?_, h5⟩
  have all : ∀ {l : List (List Key × V)} {m : List (List Key × Addr × Value)}, KT H l m → ∀ x ∈ m, (tupleKind (mixKind P w)).is h x.1 x.2.1 := by
    intro l m q
    induction q with
    | nil => intro x hx; exact nomatch hx
    | @cons p q ps qs hq t ih =>
      intro x hx
      rcases List.mem_cons.mp hx with e | hx
      · subst e
        exact key_of ok (by rw [← hq.1]; exact hq.2.1)
      · exact ih x hx
  exact all r x hx
theorem dt_of {kvs : List (List Key × V)} (ok : HOk P w H h) (e : H a = some (.dT kvs)) : kvs.length ≤ sizeLine ∧ (a == sysModules) = false ∧
    ∃ xs, KT H kvs xs ∧ h.DictOfH (tupleKind (mixKind P w)) a xs := dt_rd ok (.inl e)
end

/-- what the dict at a holds at the key y -/
def DGet (H : Hp) (a : Addr) (y : V) (r : Option V) : Prop :=
  (∃ kvs k, Rd H a (.dK kvs) ∧ y = kV k ∧ r = valV kvs k) ∨ ∃ kvs k b, Rd H a (.dT kvs) ∧ y = .ref b ∧ H b = some (.tup (k.map kV)) ∧ r = valV kvs k
/-- the heap behind a[y] = v -/
def DPut (H : Hp) (a : Addr) (y v : V) (H' : Hp) : Prop :=
  (∃ kvs k, H a = some (.dK kvs) ∧ y = kV k ∧ kvs.length < sizeLine ∧ H' = upd H a (.dK (putK kvs k v))) ∨
  ∃ kvs k b, H a = some (.dT kvs) ∧ y = .ref b ∧ H b = some (.tup (k.map kV)) ∧ kvs.length < sizeLine ∧ H' = upd H a (.dT (putK kvs k v))
theorem DGet.t {H : Hp} {a b : Addr} {kvs : List (List Key × V)} {k : List Key} (e : H a = some (.dT kvs)) (eb : H b = some (.tup (k.map kV))) : DGet H a (.ref b) (valV kvs k) := .inr ⟨kvs, k, b, .inl e, rfl, eb, rfl⟩
theorem DPut.t {H : Hp} {a b : Addr} {kvs : List (List Key × V)} {k : List Key} {v : V} (e : H a = some (.dT kvs)) (eb : H b = some (.tup (k.map kV))) (hl : kvs.length < sizeLine) :
    DPut H a (.ref b) v (upd H a (.dT (putK kvs k v))) := .inr ⟨kvs, k, b, e, rfl, eb, hl, rfl⟩


section
variable {X : Cx} {pins : List (Addr × Obj)} {σ : St} {H : Hp} {s : Shared} {a : Addr} {y v : V} {u r : Value} {o : Option V} {A : Around} {E : Value → Shared → Prop}

theorem Inv.big (I : Inv X pins σ H s) : sysModules < s.heap.objs.size := by
  have h : mainGlobals < s.heap.objs.size := (I.mod.glob.keeps I.bk).lt
  exact Nat.lt_trans (by decide) h

/-- y in d -/
theorem d_in {Q : Value → Shared → Prop} (hu : A.units + 1 < cLine) (I : Inv X pins σ H s) (g : DGet H a y o) (ry : RelV y u) (h : ∀ s', Inv X pins σ H s' → Q (.bool o.isSome) s') :
    wpAny (model X.prog X.w) A (compareOp .In u (.ref a)) Q E s := by
  rcases g with ⟨kvs, k, e, ey, l⟩ | ⟨kvs, k, b, e, ey, eb, l⟩
  · subst ey
    obtain ⟨z, hd, vs, rel, dd⟩ := dk_rd I.hok e
    refine wpAny_in_of (kV_is ry) hd dd.mapOf ?_
    rw [← (rel.val k).isSome_eq, ← l]
    exact h _ (I.tok _)
  · subst ey
    cases (show u = Value.ref b from ry)
    obtain ⟨z, hd, xs, rel, dd⟩ := dt_rd I.hok e
    refine wpAny_in_heap (tupleKind_room_in1 hu) (key_of I.hok eb) hd dd ?_
    have q := (rel.val k).isSome_eq
    rw [Option.isSome_map] at q
    rw [← q, ← l]
    exact h _ (I.tok _)
/-- a dict's object is replaced -/
theorem d_write {h' : Heap} {t' : Nat} {ob : HO} (I : Inv X pins σ H s) (mu : Mut (H a)) (hs : Heap.SameBut a s.heap h') (he : ∃ q, h'.get? a = some q) (new : ObjOk X.prog X.w (upd H a ob) h' a ob) :
    Inv X pins σ (upd H a ob) { s with heap := h', toks := t' } :=
  I.write (x := a) (e := a) mu (.inl rfl) (fun b q hb z => (hs.2 b hb).trans z) he new
theorem dk_new {P : Program} {w : World} {H' : Hp} {h' : Heap} {kvs : List (Key × V)} {vs : List (Key × Value)} (z : kvs.length ≤ sizeLine) (hd : (a == sysModules) = false) (rel : KV kvs vs) (dd : h'.DictOf (mixKind P w) a vs) :
    ObjOk P w H' h' a (.dK kvs) := ⟨z, hd, vs, rel, dd⟩
/-- d[y] = v -/
theorem d_setItem {H' : Hp} {Q : Unit → Shared → Prop} (hu : A.units + 1 < cLine) (I : Inv X pins σ H s) (g : DPut H a y v H') (ry : RelV y u) (rv : RelV v r) (h : ∀ s', Inv X pins σ H' s' → Q () s') :
    wpAny (model X.prog X.w) A (setItem (.ref a) u r) Q E s := by
  rcases g with ⟨kvs, k, e, ey, l, eH⟩ | ⟨kvs, k, b, e, ey, eb, l, eH⟩
  · subst ey eH
    obtain ⟨z, hd, vs, rel, dd⟩ := dk_of I.hok e
    have hz : vs.length ≤ sizeLine := by rw [← rel.length]; exact z
    have hl : (putK kvs k v).length ≤ sizeLine := by have := length_putK kvs k v; omega
    refine wpAny_setItem_pairs (hsz := hz) (kV_is ry) dd fun h' dd' hs => h _ ?_
    have he : ∃ q, h'.get? a = some q := let ⟨q, _, _, hq, _⟩ := dd'; ⟨q, hq⟩
    exact d_write I (by rw [e]; exact True.intro) hs he (dk_new hl hd (rel.put k rv) dd')
  · subst ey eH
    cases (show u = Value.ref b from ry)
    obtain ⟨z, hd, xs, rel, dd⟩ := dt_of I.hok e
    have hz : xs.length ≤ sizeLine := by rw [← Paired.length rel]; exact z
    have hl : (putK kvs k v).length ≤ sizeLine := by have := length_putK kvs k v; omega
    refine wpAny_setItem_heap (hsz := hz) (tupleKind_room_in1 hu) (key_of I.hok eb) dd fun h' dd' hs => h _ ?_
    obtain ⟨q, es, ep, hq, h2, h3, h4, _, h5⟩ := dd'
    refine d_write I (by rw [e]; exact True.intro) hs ⟨q, hq⟩ ⟨hl, hd, _, (rel.put k eb rv).keeps fun c ys ec => ?_, q, es, ep, hq, h2, h3, h4, h5⟩
    rw [upd_ne (ne_of ec e (fun z => nomatch z))]
    exact ec
end



/-! ### readings and rules -/
/-- the element of a subscription, not a slice -/
def NoSl (i : Expr) : Prop := ∀ ov iv, subscripted i false ov iv = operate [ov, iv] (getItem ov iv)
theorem subD_of {prog : Program} {w : World} {A : Around} {E : Value → Shared → Prop} {s : Shared} {env : Env} {value slice : Expr} {pos : Pos} {T id : String} {Q : Value → Shared → Prop}
    (hl : typeLookup (.type T) "__getitem__" = pure (some (.builtin id))) (hs : NoSl slice)
    (h : wpAny (model prog w) A (eval value env) (fun o s₁ => wpAny (model prog w) A (eval slice env) (fun i s₂ => s₂.TypeIs o T ∧ wpAny (model prog w) A (getItem o i) Q E s₂) E s₁) E s) :
    wpAny (model prog w) A (eval (.Subscript value slice pos) env) Q E s := by
  refine Subscript_ (wpAny_mono h (fun o s₁ h₁ => wpAny_mono h₁ (fun i s₂ h₂ => ?_) fun _ _ x => x) fun _ _ x => x)
  obtain ⟨hT, h₂⟩ := h₂
  unfold subscriptTail
  refine wpAny_bind ?_
  rw [getitemInPython_of_ne hT.not_modules]
  refine wpAny_bind (wpAny_specialOf hT hl ?_)
  have fin : wpAny (model prog w) A (subscripted slice false o i) (fun r s₃ => wpAny (model prog w) A (letTemporaryGo value o r >>= fun _ => pure r) Q E s₃) E s₂ := by
    rw [hs o i]
    exact wpAny_operating (wpAny_mono h₂ (fun r s₃ h₃ => wpAny_bind (wpAny_letTemporaryGo (wpAny_pure h₃))) fun _ _ x => x)
  first
    | exact wpAny_pure (wpAny_bind fin)
    | exact wpAny_bind (wpAny_pure (wpAny_bind fin))
    | exact wpAny_bind fin


/-- y in d, y not in d -/
def tDIn (ty td : TE) : TE := fun σ H Q => ty σ H fun y H1 => td σ H1 fun x H2 => ∃ a o, x = .ref a ∧ DGet H2 a y o ∧ Q (.bl o.isSome) H2
/-- d[y] = v -/
def sDPut (td ty tv : TE) : TS := fun D σ H => tv σ H fun v H1 => td σ H1 fun x H2 => ty σ H2 fun y H3 => ∃ a H4, x = .ref a ∧ DPut H3 a y v H4 ∧ D.nx σ H4

section
variable {X : Cx} {o i e value : Expr} {pos pos' tpos : Pos} {td ty tv : TE}
theorem pc_din (hu : X.A.units + 1 < cLine) (hi : PE X i ty) (ho : PE X o td) : PC X .In i o (tDIn ty td) := by
  intro pins s σ H Q I h
  refine thn (hi pins s σ H _ I h) fun iv s1 ⟨y, H1, I1, ry, q1⟩ => thn (ho pins s1 σ H1 _ I1 q1) fun u s2 ⟨x, H2, I2, rx, a, ov, ex, g, q2⟩ => ?_
  subst ex
  obtain rfl : u = Value.ref a := rx
  exact d_in hu I2 g ry fun s3 I3 => ⟨.bl ov.isSome, H2, I3, rfl, q2⟩
theorem ps_dput (hu : X.A.units + 1 < cLine) (ho : PE X o td) (hi : PE X i ty) (hv : PE X value tv) (hs : swapsWith value (some (.Subscript o i pos')) pos.line X.env = pure false) :
    PS X (.Assign [.Subscript o i pos'] value pos) (sDPut td ty tv) := by
  intro pins s σ H D I h
  refine wpAny_Assign_Subscript (thn (hv pins s σ H _ I h) fun r s1 ⟨v, H1, I1, rv, q1⟩ => thn (ho pins s1 σ H1 _ I1 q1) fun u s2 ⟨x, H2, I2, rx, q2⟩ => thn (hi pins s2 σ H2 _ I2 q2) fun iv s3 ⟨y, H3, I3, ry, a, H4, ex, g, q3⟩ => ?_) hs
  subst ex
  obtain rfl : u = Value.ref a := rx
  exact d_setItem hu I3 g ry rv fun s4 I4 => ⟨σ, H4, I4, q3⟩
end


/-! ### displays -/
theorem dt_empty {P : Program} {w : World} {H : Hp} (h : Heap) (hb : sysModules < h.objs.size) : ObjOk P w H (h.push { cls := .type "dict", data := .dict #[] }) h.objs.size (.dT []) :=
  ⟨Nat.zero_le _, beq_eq_false_iff_ne.mpr (Ne.symm (Nat.ne_of_lt hb)), [], .nil, _, #[], 0, Heap.get?_push_size _ rfl, ⟨rfl, rfl, rfl⟩, rfl, rfl, List.nodup_nil⟩
def tDNewT : TE := fun _ H Q => ∀ p, H p = none → Q (.ref p) (upd H p (.dT []))
section
variable {X : Cx} {pos : Pos}
theorem pe_dnewT : PE X (.Dict [] [] pos) tDNewT := fun pins s σ H Q I h =>
  wpAny_Dict_empty ⟨.ref s.heap.objs.size, _, I.laid (a := s.heap.objs.size) (o := .dT []) (t' := s.toks) (fun _ _ q => Heap.get?_push_of_some _ q) (Nat.le_refl _) (dt_empty s.heap I.big), rfl, h _ (I.hok.fresh (Nat.le_refl _))⟩
end




/-! ### methods -/




/-! ### dict(d): a copy -/


end L2

namespace L2
open PySem PySem.Spec PyProof.Rows



end L2

namespace L2
open PySem PySem.Spec PyProof.Rows


section
variable {X : Cx} {pins : List (Addr × Obj)} {σ : St} {H : Hp} {s : Shared} {h' : Heap}
/-- .. and one new object is laid -/
theorem Inv.turnedNew {t' : Nat} {ch : List Addr} {T : Addr} {ob : HO} (I : Inv X pins σ H s) (k : ∀ b o, b ∉ ch → s.heap.get? b = some o → h'.get? b = some o) (hf : ∀ b ∈ ch, FpOk X pins H b) (hT : s.heap.objs.size ≤ T)
    (new : ObjOk X.prog X.w (upd H T ob) h' T ob) : Inv X pins σ (upd H T ob) { s with heap := h', toks := t' } := by
  have hn : H T = none := I.hok.fresh hT
  have nit : ∀ b u, H b = some u → b ∉ ch := fun b u e z => by
    have q := (hf b z).1
    rw [q] at e; cases e
  refine I.step (g' := s.gens) (d' := s.drawn) (ch := ch) (fun b hb => ⟨(hf b hb).2.2.2.1, (hf b hb).2.1, (hf b hb).2.2.2.2.1, (hf b hb).2.2.2.2.2⟩) (fun b o _ _ hc e _ => k b o hc e) (fun b o _ _ hc e _ => ⟨o.slots, k b o hc e⟩)
    (fun b o _ e n => ?_) (fun b o hc e => ⟨o, k b o hc e⟩) (fun b xs e => ?_) (fun b o u e => ?_) (fun b ps e => ⟨#[], ?_⟩) (fun m hm => ?_) (fun b u e => ?_) I.bare
  · rw [upd_ne (Nat.ne_of_lt (Nat.lt_of_lt_of_le (Heap.lt_size e) hT))]; exact n
  · rw [upd_ne (ne_of_none e hn)]; exact e
  · rw [upd_ne (ne_of_none e hn)]; exact e
  · rw [upd_ne (ne_of_none e hn), e]; simp
  · obtain ⟨o, es, ep, ho, r⟩ := hm
    exact ⟨o, es, ep, k _ o (fun z => (hf _ z).2.1 rfl) ho, r⟩
  · by_cases hb : b = T
    · subst hb
      rw [upd_same] at e
      cases e
      exact new
    · rw [upd_ne hb] at e
      refine (I.hok b u e).stay (fun c v hc q => k c v ?_ q) (fun c q => by rw [upd_ne (ne_of_none q hn)]; exact q) fun c xs q => by rw [upd_ne (ne_of_none q hn)]; exact q
      rcases hc with z | z
      · rw [z]; exact nit b u e
      · exact nit c _ z

/-! ### locking a thing while a statement runs -/
end
section
variable {X : Cx}

/-! ### one iterator just laid -/
theorem pi_one {tg : Expr} {pins : List (Addr × Obj)} {σ : St} {H : Hp} {s : Shared} {R : It → Hp → Prop} {J : It} {tn : Nat → Heap → Prop} {tk : Nat} (I : Inv X pins σ H s) (o : Obj)
    (T : Turn X.prog X.w X.K tg J [s.heap.objs.size] s.heap.objs.size tn) (st : tn 0 (s.heap.push o)) (q : R J H) : PIE X pins σ tg R (.ref s.heap.objs.size) { s with heap := s.heap.push o, toks := tk } := by
  refine ⟨s.heap.objs.size, [s.heap.objs.size], tn, J, H, rfl, I.kept fun b ob e => Heap.get?_push_of_some _ e, T, st, fun b hb => ?_, q⟩
  have e : b = s.heap.objs.size := by simpa using hb
  subst e
  exact I.fpOk (Nat.le_refl _) (I.hok.fresh (Nat.le_refl _))
end

/-! ### range with a step -/
/-- lo, lo + c, .. (n of them) -/
def Itc (lo c : Int) (n : Nat) : It := ⟨fun i _ => i < n, fun i H x H' => H' = H ∧ x = .int (lo + (i : Nat) * c), fun i _ => n ≤ i⟩
theorem turn_rangeC {P : Program} {w : World} {K : PySem.W.Frag} {tg : Expr} (it : Addr) (lo c : Int) (n : Nat) : Turn P w K tg (Itc lo c n) [it] it (fun i h => IsRangeIter h it (lo + (i : Nat) * c) ((n : Int) - (i : Nat)) c) where
  mem := by simp
  obj := fun i h st b hb => by
    have e : b = it := by simpa using hb
    subst e
    exact ⟨_, st, fun v z => nomatch z⟩
  keep := fun i h h' st k => k it (by simp) _ st
  item := by
    intro X hP hw hK hc i pins s σ H E I hf st hg
    subst hP hw hK
    obtain ⟨f0, f1, f2, f3, f4, f5⟩ := hf it (by simp)
    have W := Walks.range (prog := X.prog) (w := X.w) (I.ok.hd hc) it lo c n
    refine W.item i s _ _ hg st fun v h' tk hv st' kk => ?_
    obtain ⟨t, rfl⟩ := hv
    have I1 : Inv X pins σ H { s with heap := h', toks := tk } := I.turned (fun b o hb e => kk b o (by simpa using hb) e) f0 f1 f3 f4 f5
    exact ⟨_, rfl, go_of (s := { s with heap := h', toks := tk }) (n := "range_iterator") st' rfl rfl (by decide) ⟨.int (lo + (i : Nat) * c), H, I1, ⟨t, rfl⟩, ⟨rfl, rfl⟩, st', fun b hb => (hf b hb).1⟩⟩
  done := by
    intro X hP hw hK hc i pins s σ H E I hf st hg
    subst hP hw hK
    obtain ⟨f0, f1, f2, f3, f4, f5⟩ := hf it (by simp)
    exact wpAny_pyNext_range_end (I.ok.hd hc) st (by have : n ≤ i := hg; omega) fun h' eb => ⟨rfl, I.turned (t' := s.toks) (fun b o hb e => eb b o hb e) f0 f1 f3 f4 f5⟩
  self := fun A i s Q E st h => wpAny_pyIter_rangeiter st h
/-- range(i, j, c): small bounds, n items -/
def RgC (i j c : Int) (n : Nat) : Prop := c ≠ 0 ∧ c.natAbs < 1073741824 ∧ Builtin.Range.small i j c = true ∧ Builtin.Range.rangeSize i j c = n
def iRng3 (ta : TA) : TI := fun σ H R => ta σ H fun vs H1 => ∃ (i j c : Int) (n : Nat), vs = [.int i, .int j, .int c] ∧ RgC i j c n ∧ R (Itc i c n) H1
section
variable {X : Cx} {tg : Expr}
theorem pi_range3 {a b c : Expr} {ta : TA} {p pos : Pos} (hg : Gl X "range") (hm : X.mg "range" = none) (ha : PA X [a, b, c] ta)
    (hs : starEach [a, b, c] X.env = (false, eval a X.env) :: starEach [b, c] X.env := by rfl) (hpl : (backTo pos (starEach [b, c] X.env)).any (·.1) = false := by rfl) :
    PI X tg (.Call (.Name "range" p) [a, b, c] [] pos) (iRng3 ta) := by
  intro pins s σ H R I h
  refine Call_ (ld_blt I hg hm boot_range (PyProof.Rows.callWith_type1 (thn (ha pos pins s σ H _ I h) fun us s1 ⟨vs, H1, I1, r1, q1⟩ => ?_) hs hpl))
  obtain ⟨i, j, k, n, e, ⟨c0, c1, c2, c3⟩, q⟩ := q1
  subst e
  cases r1 with
  | cons r rr =>
    cases rr with
    | cons r' rr =>
      cases rr with
      | cons r'' rr =>
        cases rr
        obtain ⟨t, rfl⟩ := r
        obtain ⟨t', rfl⟩ := r'
        obtain ⟨t'', rfl⟩ := r''
        refine call_range_3 c0 ?_ (.inl (PyProof.noPylong_small c1))
        refine wpAny_pyIter_range (IsRange.new ..) c2 ?_
        have I2 : Inv X pins σ H1 { s1 with heap := s1.heap.push { cls := .type "range", data := .fields #[.int i t, .int j t', .int k t''] } } := I1.kept (t' := s1.toks) fun b o e => Heap.get?_push_of_some _ e
        refine pi_one (tk := s1.toks) I2 _ (turn_rangeC _ i k n) ?_ q
        have e1 : i + ((0 : Nat) : Int) * k = i := by simp
        have e2 : (n : Int) - ((0 : Nat) : Int) = Builtin.Range.rangeSize i j k := by rw [c3]; simp
        show IsRangeIter _ _ (i + ((0 : Nat) : Int) * k) ((n : Int) - ((0 : Nat) : Int)) k
        rw [e1, e2]
        exact Heap.get?_push_size _ rfl
end

/-! ### reversed(list) -/

/-! ### a str -/

/-! ### a dict's keys: any dict's entries -/

/-! ### a locked dict -/


/-! ### for k in d, d.keys(), d.values(), d.items() -/

/-! ### enumerate(list) -/
/-- the list at a as it stands at each turn, each item in a new pair -/
def Ite (K : PySem.W.Frag) (a : Addr) : It :=
  ⟨fun i H => ∃ (xs : List V) (x : V), SqL K H a xs ∧ xs[i]? = some x, fun i H v H' => ∃ T x, v = .ref T ∧ H T = none ∧ H' = upd H T (.tup [.int (i : Nat), x]) ∧ ∀ xs, SqL K H a xs → xs[i]? = some x, fun i H => ∃ xs : List V, SqL K H a xs ∧ xs.length ≤ i⟩
theorem turn_enum {P : Program} {w : World} {K : PySem.W.Frag} {elts : List Expr} {kk : Nat} {tpos : Pos} (a e it : Addr) :
    Turn P w K (.Tuple elts kk tpos) (Ite K a) [e, it] e (fun i h => (∃ old, IsEnum h e it ((i : Nat) : Int) old) ∧ h.IsListIter it a i ∧ e ≠ it) where
  mem := by simp
  obj := fun i h st b hb => by
    obtain ⟨⟨old, he⟩, ⟨o, ho, hc, hd⟩, _⟩ := st
    have e' : b = e ∨ b = it := by simpa using hb
    rcases e' with z | z
    · rw [z]; exact ⟨_, he, fun v q => nomatch q⟩
    · rw [z]; exact ⟨o, ho, fun v q => by rw [hd] at q; cases q⟩
  keep := fun i h h' st k => let ⟨⟨old, he⟩, hi, hne⟩ := st; ⟨⟨old, k e (by simp) _ he⟩, hi.at fun o q => k it (by simp) o q, hne⟩
  item := by
    intro X hP hw hK hc i pins s σ H E I hf st hg
    subst hP hw hK
    obtain ⟨⟨old, he⟩, hit, hne⟩ := st
    obtain ⟨xs, x, hq, hx⟩ := hg
    obtain ⟨its, rv, p, hz⟩ := I.list hq
    obtain ⟨u, hu, ru⟩ := rv.get hx
    have hel : e < s.heap.objs.size := Heap.lt_size he
    have hil : it < s.heap.objs.size := by obtain ⟨_, q, _⟩ := hit; exact Heap.lt_size q
    refine wpAny_pyNext_enum_item he hit p.isList (x := u) (by simpa using hu) hne fun h' ho hit' hT hsz hk => ?_
    refine ⟨_, rfl, wpAny_letOwnedTupleGo_enum (s := { s with heap := h', toks := s.toks + 1 }) ho fun h'' he' sb => ?_⟩
    have hT2 : h''.get? s.heap.objs.size = some { cls := .type "tuple", data := .seq #[.int i s.toks, u] } := (sb.2 _ (Nat.ne_of_gt hel)).trans hT
    have new : ObjOk X.prog X.w (upd H s.heap.objs.size (.tup [.int (i : Nat), x])) h'' s.heap.objs.size (.tup [.int (i : Nat), x]) :=
      ⟨by show 2 ≤ sizeLine; decide, [.int i s.toks, u], .cons ⟨_, rfl⟩ (.cons ru .nil), ⟨_, hT2, rfl, _, rfl⟩⟩
    have I1 : Inv X pins σ (upd H s.heap.objs.size (.tup [.int (i : Nat), x])) { s with heap := h'', toks := s.toks + 1 } :=
      I.turnedNew (ch := [e, it]) (fun b ob hb q => (sb.2 b (fun z => hb (by simp [z]))).trans (hk b ob (fun z => hb (by simp [z])) (fun z => hb (by simp [z])) q)) hf (Nat.le_refl _) new
    refine ⟨.ref s.heap.objs.size, _, I1, rfl, ⟨_, x, rfl, I.hok.fresh (Nat.le_refl _), rfl, fun ys hy => by rw [I.list_inj hy hq]; exact hx⟩, ⟨⟨u, ?_⟩, hit'.at fun o q => (sb.2 it (Ne.symm hne)).trans q, hne⟩, fun b hb => ?_⟩
    · have e1 : ((i + 1 : Nat) : Int) = (i : Int) + 1 := by omega
      rw [e1]; exact he'
    · have hb' : b < s.heap.objs.size := by
        have e' : b = e ∨ b = it := by simpa using hb
        rcases e' with z | z
        · rw [z]; exact hel
        · rw [z]; exact hil
      rw [upd_ne (Nat.ne_of_lt hb')]
      exact (hf b hb).1
  done := by
    intro X hP hw hK hc i pins s σ H E I hf st hg
    subst hP hw hK
    obtain ⟨⟨old, he⟩, hit, hne⟩ := st
    obtain ⟨xs, hq, hx⟩ := hg
    obtain ⟨its, rv, p, hz⟩ := I.list hq
    obtain ⟨f0, f1, f2, f3, f4, f5⟩ := hf it (by simp)
    have hl := rv.length
    exact wpAny_pyNext_enum_end (I.ok.hd hc) he hit p.isList (by simp; omega) fun h' eb => ⟨rfl, I.turned (t' := s.toks) (fun b o hb q => eb b o hb q) f0 f1 f3 f4 f5⟩
  self := fun A i s Q E st h => let ⟨⟨_, he⟩, _⟩ := st; wpAny_pyIter_enum he h
def iEnum (K : PySem.W.Frag) (ta : TA) : TI := fun σ H R => ta σ H fun vs H1 => ∃ a xs, vs = [.ref a] ∧ SqL K H1 a xs ∧ R (Ite K a) H1
theorem pi_enum {X : Cx} {e : Expr} {ta : TA} {p pos tpos : Pos} {elts : List Expr} {kk : Nat} (hg : Gl X "enumerate") (hm : X.mg "enumerate" = none) (ha : PA X [e] ta) (hs : starEach [e] X.env = [(false, eval e X.env)] := by rfl) :
    PI X (.Tuple elts kk tpos) (.Call (.Name "enumerate" p) [e] [] pos) (iEnum X.K ta) := by
  intro pins s σ H R I h
  refine Call_ (ld_blt I hg hm boot_enumerate (PyProof.Rows.callWith_type1 (thn (ha pos pins s σ H _ I h) fun us s1 ⟨vs, H1, I1, r1, q1⟩ => ?_) hs rfl))
  obtain ⟨a, xs, ex, hq, q⟩ := q1
  subst ex
  cases r1 with
  | cons r rr =>
    cases rr
    cases r
    obtain ⟨its, rv, p', hz⟩ := I1.list hq
    refine call_enumerate_list p'.isList fun h' he hit hsz hk => wpAny_pyIter_enum he ?_
    have I2 : Inv X pins σ H1 { s1 with heap := h' } := I1.kept (t' := s1.toks) hk
    refine ⟨s1.heap.objs.size + 1, [s1.heap.objs.size + 1, s1.heap.objs.size], _, _, H1, rfl, I2, turn_enum a (s1.heap.objs.size + 1) s1.heap.objs.size, ⟨⟨.none, he⟩, hit, Nat.succ_ne_self _⟩, fun b hb => ?_, q⟩
    have e' : b = s1.heap.objs.size + 1 ∨ b = s1.heap.objs.size := by simpa using hb
    have hle : s1.heap.objs.size ≤ b := by
      rcases e' with z | z
      · rw [z]; exact Nat.le_add_right _ _
      · rw [z]; exact Nat.le_refl _
    exact I1.fpOk hle (I1.hok.fresh hle)
/-! ### zip(list, list) -/
end L2

section 
namespace Bits
open PySem PyProof.Rows








end Bits
end 

section 
namespace TL
open PySem PySem.Builtin PySem.Builtin.Str PySem.StrLaws


/-! ### the list functions -/




/-! ### the model's split and partition are these -/




/-! ### computing spl and par -/


/-! ### digits -/

/-! ### words: x.split() -/
end TL
end 

namespace L2
open PySem PySem.Spec PyProof.Rows






end L2

namespace L2
open PySem PySem.Spec PyProof.Rows


/-! ### slices of a text -/


end L2

namespace Att
open PySem PySem.W PySem.Calls PyProof.Rows

/-! ### the script -/
theorem ints_of_wellAll {P : Params} {h : Heap} : ∀ (ns : List Int) (vs : List Value), WellAll P h vs (ns.map WData.int) → IntsAre vs ns := by
  intro ns
  induction ns with
  | nil =>
    intro vs w
    rw [List.map_nil] at w
    cases w
    exact .nil
  | cons n ns ih =>
    intro vs w
    rw [List.map_cons] at w
    cases w with
    | cons a b =>
      cases a
      exact .cons _ _ (ih _ b)



/-! ### the attachment: holds_open's last premise (the goal 'hc' behind k_head) from a wpAny of the law's body -/



/-! ### rules over ANY heap (no ledger) from facts about the written part K: the library's own take a ledger (News) for what they write -/
end Att

namespace L2
open PySem PySem.Spec PyProof.Rows

theorem vals_ints : ∀ {vs : List Value} {ns : List Int}, IntsAre vs ns → Vals (ns.map V.int) vs
  | _, _, .nil => .nil
  | _, _, .cons n t h => .cons ⟨t, rfl⟩ (vals_ints h)

/-- nothing is tracked but the script, known to the object (or it is an object of the module) -/
def Only (H : Hp) : Prop := ∀ b, H b = none ∨ ∃ o xs, H b = some (.frz o (.lst xs))

end L2

namespace L2
open PySem PySem.Spec PyProof.Rows

abbrev KOf {K : PySem.W.Frag} {h : Heap} (_ : K.In h) : PySem.W.Frag := K

end L2

/- THE LAST THEOREM (shape; LID, My.* are yours):
   My.Adr: a structure of the addresses that your layer names (classes, functions); My.Txt K t: a structure (Prop) of the equations over K;
   My.txt_mk : {K} {implicit addresses ..} (e1 : nsIn K mainGlobals "law" = some (some (.ref f))) (e2 : K.lookup f = some ⟨oc, od, .func (fnOf "law" "law" params body scope dV kV doc pm an cdv ct), sl⟩) (e3 : codeIn K cdv "law" = true) .. : ∃ t, My.Txt K t

set_option maxRecDepth 100000 in
set_option maxHeartbeats 0 in
theorem PySem.Challenge.cw_LID_holds : PySem.Challenge.rw_LID.Holds := by
  w_on; o_law; k_head; (case hw => w_witness2)
  k_fill
  refine L2.walk_of (l := PySem.Challenge.rw_LID) (n := 63) (k := 40) (x := "script") (CX := fun w => ..) (sp := fun _ => My.sp_law) rfl (by decide) rfl ⟨rfl, by decide, by decide⟩ (fun w h Y => PySem.W.kIn_of Y) ?F ?S ?C
  case F =>
    intro w mg fa h KX G hmg
    have T : ∃ t, My.Txt (L2.KOf KX) t := by
      dsimp only [L2.KOf]                          -- K must stand as «<heap const> w.params» for k_is
      refine' My.txt_mk ?e1 ?e2 ?e3 ..
      (case e1 => PySem.W.k_is)                    -- in the order: a name -> its address -> its object -> its parts
      (case e2 => PySem.W.k_is)
      ..
    obtain ⟨t, T⟩ := T
    have e0 := hmg.symm.trans (PySem.W.mg_of KX G T.law)
    cases e0                                       -- fa is the law's own address
    exact ⟨_, fun s u => .of_eq rfl, fun base kb nb => My.law_fn T kb nb⟩     -- if «.of_eq rfl» comes too early: refine' ⟨_, ?b, fun base kb nb => My.law_fn T kb nb⟩; exact fun s u => .of_eq rfl
  case S => exact fun w H a ns hl hO hS => ..
  case C => exact ..
(the tactic k_is has no namespace: write k_is) -/

/-! SHORT WORDS over the layer: a def of the text, its body, what a loop and a test want. -/
namespace L2
open PySem PySem.Spec PyProof.Rows

/-! ### the text by places -/
/-- the j-th statement of a class's body -/
def inClass (s : Stmt) (j : Nat) : Stmt := match s with
  | .ClassDef _ _ _ body _ _ _ _ _ _ _ => body.getD j (.Pass ⟨0, 0, 0, 0⟩)
  | _ => .Pass ⟨0, 0, 0, 0⟩
def defArgs (s : Stmt) : Arguments := match s with
  | .FunctionDef _ a _ _ _ _ _ _ _ _ => a
  | _ => { posonlyargs := [], args := [], vararg := none, kwonlyargs := [], kw_defaults := [], kwarg := none, defaults := [] }
def defBody (s : Stmt) : List Stmt := match s with
  | .FunctionDef _ _ b _ _ _ _ _ _ _ => b
  | _ => []
def defScope (s : Stmt) : Scope := match s with
  | .FunctionDef _ _ _ _ _ _ sc _ _ _ => sc
  | _ => { kind := .function, names := [], isGenerator := false, isCoroutine := false }

/-! ### no exception leaves a def -/
abbrev CX0 : CXT := fun _ _ _ _ _ _ => False
abbrev E0 : XK := fun _ _ _ => False
theorem pass0 {X : Cx} : Passes CX0 X E0 := fun _ _ _ _ _ _ _ h => h.elim

/-! ### a def (or method) of the text as it stands behind the top -/
structure Fun (K : PySem.W.Frag) (x qual : Str) (st : Stmt) (f : Addr) (fd : FuncData) : Prop where
  ex : ∃ (oc : Value) (od : Option Addr) (kV doc pm : Value) (an : Option Addr) (cdv ct : Value) (osl : Array (Option Value)),
    fd = PySem.W.fnOf x qual (defArgs st) (defBody st) (defScope st) .none kV doc pm an cdv ct ∧ K.lookup f = some ⟨oc, od, .func fd, osl⟩ ∧ PySem.W.codeIn K cdv qual = true
  kp : PySem.W.keepIn K (.ref f) = true
section
variable {P : Program} {w : World} {K : PySem.W.Frag} {mg : Str → Option Value} {base : Heap}
/-- THE RULE for a def: its body as a term of rules, and the reading of that term -/
theorem Fun.ok {x qual : Str} {st : Stmt} {f : Addr} {fd : FuncData} {N ps : List Str} {k : Nat} {sp : Sp} (F : Fun K x qual st f fd) (S : FnScope N ps (defScope st)) (len : ∀ vs H Q E, sp vs H Q E → vs.length = ps.length)
    (hbody : ∀ (cdv : Value) (A : Around) (outer : List Env) (s : Shared) (H : Hp) (vs : List V) (Q : VK) (E : XK), Room k (A.deeper (envOfC qual (defScope st) s.heap.objs.size f cdv)) → sp vs H Q E →
      ∃ t, PSs (cxOf CX0 P w K mg base N qual (defScope st) f cdv A outer s H E).nox (defBody st) t ∧ t { nx := fun _ H' => Q .non H', rt := Q } (start N vs) H) : FnOk P w K mg base CX0 (k + 1) f fd ps sp := by
  obtain ⟨oc, od, kV, doc, pm, an, cdv, ct, osl, rfl, lk, hcd⟩ := F.ex
  refine fn_of lk hcd S len fun A outer s H vs Q E hr hsp => ?_
  obtain ⟨t, h, q⟩ := hbody cdv A outer s H vs Q E hr hsp
  exact ⟨t, h.nox, q⟩
/-- how its arguments bind (no defaults): h is «fun _ _ _ _ _ _ us hl => match us, hl with | [_, _], _ => rfl», one _ a parameter -/
theorem Fun.binds {x qual : Str} {st : Stmt} {f : Addr} {fd : FuncData} {ps : List Str} (F : Fun K x qual st f fd)
    (h : ∀ (kV doc pm : Value) (an : Option Addr) (cdv ct : Value) (us : List Value), us.length = ps.length → bindArgs (PySem.W.fnOf x qual (defArgs st) (defBody st) (defScope st) .none kV doc pm an cdv ct) ⟨us, []⟩ = pure (ps.zip us)) : Binds K fd ps [] := by
  obtain ⟨oc, od, kV, doc, pm, an, cdv, ct, osl, rfl, lk, hcd⟩ := F.ex
  exact .all (h kV doc pm an cdv ct)
theorem fun_mk {x qual : Str} {st : Stmt} {f : Addr} {oc : Value} {od an : Option Addr} {osl : Array (Option Value)} {kV doc pm cdv ct : Value} (l : K.lookup f = some ⟨oc, od, .func (PySem.W.fnOf x qual (defArgs st) (defBody st) (defScope st) .none kV doc pm an cdv ct), osl⟩)
    (c : PySem.W.codeIn K cdv qual = true) (k : PySem.W.keepIn K (.ref f) = true) : Fun K x qual st f (PySem.W.fnOf x qual (defArgs st) (defBody st) (defScope st) .none kV doc pm an cdv ct) := ⟨⟨oc, od, kV, doc, pm, an, cdv, ct, osl, rfl, l, c⟩, k⟩
end
theorem hu_of {A : Around} {k : Nat} (hr : Room k A) : A.units + 1 < cLine := Nat.lt_of_le_of_lt (Nat.add_le_add_left (by decide : 1 ≤ 64) _) hr.units

/-! ### expressions in short: the name that stands in the i-th slot -/
section
variable {X : Cx}
theorem pv (i : Nat) {x : Str} {pos : Pos} (hN : X.N[i]? = some x := by rfl) (hv : Vis X.env.scope x := by first | exact Or.inl rfl | exact Or.inr (Or.inl rfl) | exact Or.inr (Or.inr rfl)) (hd : (x == ("__debug__" : Str)) = false := by decide)
    (hcd : (x == ("__classdict__" : Str)) = false := by decide) : PE X (.Name x pos) (tVar i) := pe_var hN hv hd hcd
end

/-! ### tests -/
theorem iteF {A B : Prop} (h : B) : if false = true then A else B := by
  rw [if_neg Bool.false_ne_true]
  exact h
theorem iteT {A B : Prop} (h : A) : if true = true then A else B := by
  rw [if_pos rfl]
  exact h

/-! ### heaps -/
/-- all that was tracked is as it was -/
def Same (H H' : Hp) : Prop := ∀ b o, H b = some o → H' b = some o
theorem Same.refl (H : Hp) : Same H H := fun _ _ h => h
theorem Same.trans {H H1 H2 : Hp} (a : Same H H1) (b : Same H1 H2) : Same H H2 := fun c o h => b c o (a c o h)
theorem Same.free {H H' : Hp} (e : Same H H') {l : Addr} (h : H' l = Option.none) : H l = Option.none := by
  cases q : H l with
  | none => rfl
  | some o =>
    rw [e l o q] at h
    cases h
theorem Same.seq {K : PySem.W.Frag} {H H' : Hp} {a : Addr} {xs : List V} (e : Same H H') (h : SqL K H a xs) : SqL K H' a xs := by
  rcases h with (h | ⟨o, h⟩) | h
  · exact .inl (.inl (e _ _ h))
  · exact .inl (.inr ⟨o, e _ _ h⟩)
  · exact .inr h

/-! ### a dict's pairs: keys that differ -/
/-! ### lists -/
theorem at_of {xs : List V} {z : Int} {j : Nat} {v : V} (e : z = (j : Int)) (h : xs[j]? = some v) : atI xs z = some v := by
  rw [e]
  exact atI_nat h
/-- a new instance and its __init__ leave all that was tracked as it was -/
theorem Same.made {H H1 : Hp} {x dx C : Addr} (nx : H x = Option.none) (nd : H dx = Option.none) (k : ∀ b o, (upd (upd H dx (.own x)) x (.ins C dx [])) b = some o → b ≠ x → H1 b = some o) : Same H H1 := fun b o e =>
  k b o (by rw [upd_ne (ne_of_none e nx), upd_ne (ne_of_none e nd)]; exact e) (ne_of_none e nx)
end L2
namespace Po
open Sg50 (rolesOf How)
/-! The mirror: the office as the program holds it, whole numbers alone. -/
structure Per where
  roles : Int
  chief : Int
  sin : Int
  till : Int
structure Stp where
  role : Int
  sig : Int
  days : Int
  own : Int
  back : Int
structure Ac where
  step : Int
  turn : Int
  by_ : Int
  for_ : Int
  signed : Int
structure Pap where
  writer : Int
  proc : Int
  state : Int
  step : Int
  turn : Int
  level : Int
  due : Int
  acts : List Ac
structure Off where
  today : Int
  people : List Per
  apart : List (Int × Int)
  procs : List (List Stp)
  papers : List Pap
def d0 : Per := ⟨0, -1, -1, 0⟩
def st0 : Stp := ⟨0, 1, 1, 0, -1⟩
/-! what it stands for -/
def opt (z : Int) : Option Nat := if z < 0 then none else some z.toNat
def absPer (p : Per) : Sg50.Person := ⟨rolesOf p.roles.toNat, opt p.chief, if p.sin < 0 then none else some (p.sin.toNat, p.till)⟩
def absStp (s : Stp) : Sg50.Step := ⟨s.role.toNat, s.sig.toNat, s.days.toNat, decide (s.own = 1), opt s.back⟩
def absAc (a : Ac) : Sg50.Act := ⟨a.step.toNat, a.turn.toNat, a.by_.toNat, a.for_.toNat, decide (a.signed = 1)⟩
def absHow (z : Int) : How := if z = 0 then .running else if z = 1 then .approved else if z = 2 then .refused else if z = 3 then .withdrawn else .lapsed
def absPap (x : Pap) : Sg50.Paper := ⟨x.proc.toNat, x.writer.toNat, x.step.toNat, x.turn.toNat, x.level.toNat, x.due, x.acts.map absAc, absHow x.state⟩
def absOff (m : Off) : Sg50.Office := ⟨m.people.map absPer, m.apart.map (fun p => (p.1.toNat, p.2.toNat)), m.procs.map (fun l => l.map absStp), m.papers.map absPap, m.today⟩
/-! what holds of it -/
structure WPer (n : Nat) (p : Per) : Prop where
  r0 : 0 ≤ p.roles
  r1 : p.roles ≤ 65535
  c0 : -1 ≤ p.chief
  c1 : p.chief < n
  s0 : -1 ≤ p.sin
  s1 : p.sin < n
structure WStp (k : Nat) (s : Stp) : Prop where
  r0 : 0 ≤ s.role
  r1 : s.role ≤ 15
  g0 : 1 ≤ s.sig
  g1 : s.sig ≤ 3
  d0 : 1 ≤ s.days
  d1 : s.days ≤ 30
  o0 : 0 ≤ s.own
  o1 : s.own ≤ 1
  b0 : -1 ≤ s.back
  b1 : s.back ≤ k
structure WAc (n L : Nat) (a : Ac) : Prop where
  s0 : 0 ≤ a.step
  s1 : a.step < L
  t0 : 0 ≤ a.turn
  b0 : 0 ≤ a.by_
  b1 : a.by_ < n
  f0 : 0 ≤ a.for_
  f1 : a.for_ < n
  g : a.signed = 0 ∨ a.signed = 1
/-- how many have signed at this step, in this round -/
def cnt (acts : List Ac) (step turn : Int) : Nat := (acts.filter fun a => decide (a.signed = 1) && (decide (a.step = step) && decide (a.turn = turn))).length
structure WPap (n : Nat) (procs : List (List Stp)) (x : Pap) : Prop where
  w0 : 0 ≤ x.writer
  w1 : x.writer < n
  p0 : 0 ≤ x.proc
  p1 : x.proc < procs.length
  h0 : 0 ≤ x.state
  h1 : x.state ≤ 4
  s0 : 0 ≤ x.step
  s1 : x.step < (procs.getD x.proc.toNat []).length
  t0 : 0 ≤ x.turn
  t1 : x.turn ≤ 10
  l0 : 0 ≤ x.level
  l1 : x.level ≤ 5
  ac : ∀ a ∈ x.acts, WAc n (procs.getD x.proc.toNat []).length a
  lex : ∀ a ∈ x.acts, a.turn < x.turn ∨ (a.turn = x.turn ∧ a.step ≤ x.step)
  few : x.state = 0 → (cnt x.acts x.step x.turn : Int) < ((procs.getD x.proc.toNat []).getD x.step.toNat st0).sig
structure WOff (m : Off) : Prop where
  n : m.people.length ≤ 32
  per : ∀ p ∈ m.people, WPer m.people.length p
  ap : ∀ p ∈ m.apart, (0 ≤ p.1 ∧ p.1 ≤ 15) ∧ 0 ≤ p.2 ∧ p.2 ≤ 15
  k : m.procs.length ≤ 16
  pr : ∀ l ∈ m.procs, 1 ≤ l.length ∧ l.length ≤ 16 ∧ ∀ (j : Nat) (s : Stp), l[j]? = some s → WStp j s
  j : m.papers.length ≤ 256
  pa : ∀ x ∈ m.papers, WPap m.people.length m.procs x
  td : 0 ≤ m.today
def m0 : Off := ⟨0, [], [], [], []⟩
theorem abs0 : absOff m0 = Sg50.empty := rfl
theorem w0 : WOff m0 := ⟨by decide, fun _ h => (by cases h), fun _ h => (by cases h), by decide, fun _ h => (by cases h), by decide, fun _ h => (by cases h), by decide⟩
/-! ### who may act -/
def has (n : Nat) (z : Int) : Bool := decide (0 ≤ z) && decide (z < n)
theorem has_iff {n : Nat} {z : Int} : has n z = true ↔ 0 ≤ z ∧ z < n := by simp [has]
theorem below_has {n : Nat} {z : Int} : Sg50.below z n = has n z := rfl
def per (m : Off) (z : Int) : Per := m.people.getD z.toNat d0
def stepsAt (m : Off) (x : Pap) : List Stp := m.procs.getD x.proc.toNat []
def stepAt (m : Off) (x : Pap) : Stp := (stepsAt m x).getD x.step.toNat st0
def stands (m : Off) (by_ for_ : Int) : Bool := decide (by_ = for_) || (decide ((per m for_).sin = by_) && decide (m.today ≤ (per m for_).till))
def holds (p : Per) (role : Int) : Bool := p.roles.toNat / 2 ^ role.toNat % 2 == 1
def climb (ps : List Per) (chief : Int) : Nat → Int → Bool
  | 0, _ => false
  | n + 1, r => if r = -1 then false else if r = chief then true else climb ps chief n (ps.getD r.toNat d0).chief
def entitled (m : Off) (p role level : Int) : Bool := (List.range m.people.length).any fun i => holds (m.people.getD i d0) role && climb m.people p (level.toNat + 1) i
def part (a : Ac) (by_ for_ : Int) : Bool := (decide (a.by_ = by_) || decide (a.by_ = for_)) || (decide (a.for_ = by_) || decide (a.for_ = for_))
def inRound (x : Pap) (by_ for_ : Int) : Bool := x.acts.any fun a => (decide (a.step = x.step) && decide (a.turn = x.turn)) && part a by_ for_
def apartIn (l : List (Int × Int)) (r s : Int) : Bool := l.any fun p => (decide (p.1 = r) && decide (p.2 = s)) || (decide (p.1 = s) && decide (p.2 = r))
def inApart (m : Off) (x : Pap) (by_ for_ : Int) : Bool := x.acts.any fun a => apartIn m.apart ((stepsAt m x).getD a.step.toNat st0).role (stepAt m x).role && part a by_ for_
def refusal (m : Off) (by_ for_ : Int) (x : Pap) : Int :=
  if x.state ≠ 0 then -3
  else if stands m by_ for_ = false then -4
  else if entitled m for_ (stepAt m x).role x.level = false then -5
  else if (stepAt m x).own = 0 ∧ (x.writer = by_ ∨ x.writer = for_) then -6
  else if inRound x by_ for_ = true then -7
  else if inApart m x by_ for_ = true then -9
  else 0
/-! ### the lookups -/
theorem getD_map {α β : Type} (f : α → β) (l : List α) (i : Nat) (a : α) : (l.map f).getD i (f a) = f (l.getD i a) := by
  simp only [List.getD_eq_getElem?_getD, List.getElem?_map]
  cases l[i]? <;> rfl
theorem getD_mem {α : Type} {l : List α} {i : Nat} {a : α} (h : i < l.length) : l.getD i a ∈ l := by
  rw [List.getD_eq_getElem?_getD, List.getElem?_eq_getElem h]
  exact List.getElem_mem h
theorem getD_some {α : Type} {l : List α} {i : Nat} {a b : α} (h : l[i]? = some b) : l.getD i a = b := by
  rw [List.getD_eq_getElem?_getD, h]
  rfl
theorem some_getD {α : Type} {l : List α} {i : Nat} (a : α) (h : i < l.length) : l[i]? = some (l.getD i a) := by
  rw [List.getD_eq_getElem?_getD, List.getElem?_eq_getElem h]
  rfl
theorem getD_lt {α : Type} {l : List α} {i : Nat} (a b : α) (h : i < l.length) : l.getD i a = l.getD i b := by
  rw [List.getD_eq_getElem?_getD, List.getD_eq_getElem?_getD, List.getElem?_eq_getElem h]
  rfl
theorem toNat_inj {a b : Int} (ha : 0 ≤ a) (hb : 0 ≤ b) : (a.toNat = b.toNat) ↔ a = b := by omega
theorem beq_toNat {a b : Int} (ha : 0 ≤ a) (hb : 0 ≤ b) : (a.toNat == b.toNat) = decide (a = b) := by
  by_cases h : a = b
  · subst h; simp
  · have h' : a.toNat ≠ b.toNat := fun e => h ((toNat_inj ha hb).mp e)
    simp [h, h']
theorem abs_steps (m : Off) (x : Pap) : (absOff m).steps (absPap x) = (stepsAt m x).map absStp := by
  unfold Sg50.Office.steps stepsAt
  exact getD_map (fun l => l.map absStp) m.procs _ []
theorem abs_s0 : absStp st0 = ⟨0, 1, 1, false, none⟩ := rfl
theorem abs_step (m : Off) (x : Pap) : (absOff m).step (absPap x) = absStp (stepAt m x) := by
  unfold Sg50.Office.step stepAt
  rw [abs_steps, ← abs_s0]
  exact getD_map absStp _ _ _
theorem abs_person {m : Off} {i : Nat} (h : i < m.people.length) : (absOff m).person i = absPer (m.people.getD i d0) := by
  unfold Sg50.Office.person
  show (m.people.map absPer).getD i _ = _
  rw [getD_lt _ (absPer d0) (by rw [List.length_map]; exact h)]
  exact getD_map absPer _ _ _
theorem WOff.at_ {m : Off} (W : WOff m) {i : Nat} (h : i < m.people.length) : WPer m.people.length (m.people.getD i d0) := W.per _ (getD_mem h)
theorem roles_in {n r : Nat} (h : r < 16) : (rolesOf n).contains r = (n / 2 ^ r % 2 == 1) := by
  unfold rolesOf
  rw [Bool.eq_iff_iff, List.contains_iff_mem, List.mem_filter, List.mem_range]
  constructor
  · exact fun q => q.2
  · exact fun q => ⟨h, q⟩
theorem abs_holds {m : Off} (W : WOff m) {i : Nat} (h : i < m.people.length) {r : Int} (h0 : 0 ≤ r) (h1 : r ≤ 15) : (absOff m).holds i r.toNat = holds (m.people.getD i d0) r := by
  unfold Sg50.Office.holds
  rw [abs_person h]
  exact roles_in (by omega)
theorem opt_neg {z : Int} (h : z < 0) : opt z = none := if_pos h
theorem opt_nat {z : Int} (h : 0 ≤ z) : opt z = some z.toNat := if_neg (by omega)
theorem any_range_succ (f : Nat → Bool) (k : Nat) : (List.range (k + 1)).any f = (f 0 || (List.range k).any fun n => f (n + 1)) := by
  rw [List.range_succ_eq_map, List.any_cons, List.any_map]
  rfl
theorem climb_eq {m : Off} (W : WOff m) {p : Int} (hp : 0 ≤ p) : ∀ (k : Nat) (r : Int), 0 ≤ r → r < m.people.length → climb m.people p k r = (List.range k).any fun n => (absOff m).above n r.toNat == some p.toNat
  | 0, _, _, _ => rfl
  | k + 1, r, h0, h1 => by
    rw [any_range_succ]
    show (if r = -1 then false else if r = p then true else _) = _
    rw [if_neg (by omega)]
    have hlt : r.toNat < m.people.length := by omega
    have ea : ∀ n, (absOff m).above (n + 1) r.toNat = (opt (m.people.getD r.toNat d0).chief).bind fun q => (absOff m).above n q := fun n => by
      show (((absOff m).person r.toNat).chief).bind _ = _
      rw [abs_person hlt]
      rfl
    have e0 : ((absOff m).above 0 r.toNat == some p.toNat) = decide (r = p) := by
      show (some r.toNat == some p.toNat) = _
      rw [← beq_toNat h0 hp]
      rfl
    rw [e0]
    have W' := W.at_ hlt
    by_cases e : r = p
    · rw [if_pos e, decide_eq_true e]; rfl
    · rw [if_neg e, decide_eq_false e, Bool.false_or]
      by_cases hc : (m.people.getD r.toNat d0).chief < 0
      · have hc' : (m.people.getD r.toNat d0).chief = -1 := by have := W'.c0; omega
        have z : (List.range k).any (fun n => (absOff m).above (n + 1) r.toNat == some p.toNat) = false := by
          rw [List.any_eq_false]
          intro n _
          rw [ea, opt_neg hc]
          simp
        rw [z, hc']
        cases k <;> simp [climb]
      · rw [climb_eq W hp k _ (by omega) W'.c1]
        congr 1
        funext n
        rw [ea, opt_nat (by omega)]
        rfl
theorem any_congr {α : Type} {f g : α → Bool} {l : List α} (h : ∀ a ∈ l, f a = g a) : l.any f = l.any g := by
  rw [Bool.eq_iff_iff, List.any_eq_true, List.any_eq_true]
  constructor
  · rintro ⟨a, ha, e⟩; exact ⟨a, ha, by rw [← h a ha]; exact e⟩
  · rintro ⟨a, ha, e⟩; exact ⟨a, ha, by rw [h a ha]; exact e⟩
theorem abs_entitled {m : Off} (W : WOff m) {p r l : Int} (hp : 0 ≤ p) (h0 : 0 ≤ r) (h1 : r ≤ 15) : (absOff m).entitled l.toNat p.toNat r.toNat = entitled m p r l := by
  unfold Sg50.Office.entitled entitled
  have e : (absOff m).people.length = m.people.length := List.length_map _
  rw [e]
  refine any_congr fun i hi => ?_
  have hi' := List.mem_range.mp hi
  rw [abs_holds W hi' h0 h1, climb_eq W hp _ (i : Int) (by omega) (by omega)]
  rfl
theorem abs_acts {m : Off} (W : WOff m) {b f : Int} (hb : 0 ≤ b) (hf : 0 ≤ f) (hf1 : f < m.people.length) : (absOff m).acts b.toNat f.toNat = stands m b f := by
  unfold Sg50.Office.acts stands per
  rw [beq_toNat hb hf, abs_person (by omega)]
  congr 1
  have W' := W.at_ (i := f.toNat) (by omega)
  show (match (if (m.people.getD f.toNat d0).sin < 0 then none else some ((m.people.getD f.toNat d0).sin.toNat, (m.people.getD f.toNat d0).till)) with | some x => x.1 == b.toNat && decide (m.today ≤ x.2) | none => false) = _
  by_cases h : (m.people.getD f.toNat d0).sin < 0
  · rw [if_pos h, decide_eq_false (by omega)]; rfl
  · rw [if_neg h]
    show ((m.people.getD f.toNat d0).sin.toNat == b.toNat && _) = _
    rw [beq_toNat (by omega) hb]
theorem abs_of {n L : Nat} {a : Ac} (A : WAc n L a) {b f : Int} (hb : 0 ≤ b) (hf : 0 ≤ f) : (absAc a).of b.toNat f.toNat = part a b f := by
  show (a.by_.toNat == b.toNat || (a.by_.toNat == f.toNat || (a.for_.toNat == b.toNat || a.for_.toNat == f.toNat))) = _
  rw [beq_toNat A.b0 hb, beq_toNat A.b0 hf, beq_toNat A.f0 hb, beq_toNat A.f0 hf]
  unfold part
  rw [Bool.or_assoc]
theorem any_or2 {α : Type} (f g : α → Bool) : ∀ l : List α, (l.any f || l.any g) = l.any fun a => f a || g a
  | [] => rfl
  | a :: r => by
    rw [List.any_cons, List.any_cons, List.any_cons, ← any_or2 f g r]
    cases f a <;> cases g a <;> cases r.any f <;> cases r.any g <;> rfl
theorem abs_apart {m : Off} (W : WOff m) {r s : Int} (hr : 0 ≤ r) (hs : 0 ≤ s) : (absOff m).keptApart r.toNat s.toNat = apartIn m.apart r s := by
  unfold Sg50.Office.keptApart apartIn
  show ((m.apart.map fun p => (p.1.toNat, p.2.toNat)).contains (r.toNat, s.toNat) || (m.apart.map fun p => (p.1.toNat, p.2.toNat)).contains (s.toNat, r.toNat)) = _
  have e : ∀ {a b : Int}, 0 ≤ a → 0 ≤ b → (m.apart.map fun p => (p.1.toNat, p.2.toNat)).contains (a.toNat, b.toNat) = m.apart.any fun p => decide (p.1 = a) && decide (p.2 = b) := by
    intro a b ha hb
    rw [Bool.eq_iff_iff, List.contains_iff_mem, List.mem_map, List.any_eq_true]
    constructor
    · rintro ⟨p, hp, q⟩
      obtain ⟨⟨h1, _⟩, h2, _⟩ := W.ap p hp
      have q1 := congrArg Prod.fst q
      have q2 := congrArg Prod.snd q
      exact ⟨p, hp, by simp only [Bool.and_eq_true, decide_eq_true_eq]; exact ⟨(toNat_inj h1 ha).mp q1, (toNat_inj h2 hb).mp q2⟩⟩
    · rintro ⟨p, hp, q⟩
      simp only [Bool.and_eq_true, decide_eq_true_eq] at q
      exact ⟨p, hp, by rw [q.1, q.2]⟩
  rw [e hr hs, e hs hr, any_or2]
theorem abs_how0 {z : Int} (h0 : 0 ≤ z) (h1 : z ≤ 4) : (absHow z ≠ How.running) ↔ z ≠ 0 := by
  unfold absHow
  constructor
  · intro h e; exact h (by rw [if_pos e])
  · intro h
    rw [if_neg h]
    split
    · simp
    · split
      · simp
      · split <;> simp
theorem how_of {z : Int} (h0 : 0 ≤ z) (h1 : z ≤ 4) : Sg50.howOf (absHow z) = z := by
  have : z = 0 ∨ z = 1 ∨ z = 2 ∨ z = 3 ∨ z = 4 := by omega
  rcases this with rfl | rfl | rfl | rfl | rfl <;> rfl
theorem WOff.stp {m : Off} (W : WOff m) {x : Pap} (X : WPap m.people.length m.procs x) {j : Nat} (h : j < (stepsAt m x).length) : WStp j ((stepsAt m x).getD j st0) := by
  have hp : stepsAt m x ∈ m.procs := getD_mem (by have := X.p0; have := X.p1; omega)
  exact (W.pr _ hp).2.2 j _ (some_getD st0 h)
theorem WOff.stp1 {m : Off} (W : WOff m) {x : Pap} (X : WPap m.people.length m.procs x) : WStp x.step.toNat (stepAt m x) := W.stp X (by have := X.s0; have := X.s1; unfold stepsAt; omega)
/-- **the refusal is the specification's** -/
theorem abs_hinders {m : Off} (W : WOff m) {x : Pap} (X : WPap m.people.length m.procs x) {b f : Int} (hb : 0 ≤ b) (hf : 0 ≤ f) (hf1 : f < m.people.length) :
    (absOff m).hinders (absPap x) b.toNat f.toNat = if refusal m b f x = 0 then none else some (refusal m b f x) := by
  have S := W.stp1 X
  unfold Sg50.Office.hinders
  rw [abs_step, abs_acts W hb hf hf1]
  have e1 : (absOff m).entitled (absPap x).level f.toNat (absStp (stepAt m x)).role = entitled m f (stepAt m x).role x.level := abs_entitled W hf S.r0 S.r1
  have e2 : ((absPap x).acts.any fun a => a.of b.toNat f.toNat && (a.step == (absPap x).step && a.round == (absPap x).round)) = inRound x b f := by
    show ((x.acts.map absAc).any _) = _
    rw [List.any_map]
    refine any_congr fun a ha => ?_
    have A := X.ac a ha
    show ((absAc a).of b.toNat f.toNat && (a.step.toNat == x.step.toNat && a.turn.toNat == x.turn.toNat)) = _
    rw [abs_of A hb hf, beq_toNat A.s0 X.s0, beq_toNat A.t0 X.t0, Bool.and_comm]
  have e3 : ((absPap x).acts.any fun a => a.of b.toNat f.toNat && (absOff m).keptApart ((((absOff m).steps (absPap x)).getD a.step (absStp (stepAt m x))).role) (absStp (stepAt m x)).role) = inApart m x b f := by
    show ((x.acts.map absAc).any _) = _
    rw [List.any_map]
    refine any_congr fun a ha => ?_
    have A := X.ac a ha
    have hl : a.step.toNat < (stepsAt m x).length := by have := A.s0; have := A.s1; unfold stepsAt; omega
    have ea : ((absOff m).steps (absPap x)).getD (absAc a).step (absStp (stepAt m x)) = absStp ((stepsAt m x).getD a.step.toNat st0) := by
      rw [abs_steps, getD_map]
      exact congrArg absStp (getD_lt _ _ hl)
    show ((absAc a).of b.toNat f.toNat && (absOff m).keptApart ((((absOff m).steps (absPap x)).getD (absAc a).step (absStp (stepAt m x))).role) (absStp (stepAt m x)).role) = _
    rw [abs_of A hb hf, ea, Bool.and_comm]
    congr 1
    exact abs_apart W (W.stp X hl).r0 S.r0
  have eo : (absStp (stepAt m x)).own = false ↔ (stepAt m x).own = 0 := by
    show decide ((stepAt m x).own = 1) = false ↔ _
    rw [decide_eq_false_iff_not]
    have := S.o0
    have := S.o1
    omega
  have ew : ((absStp (stepAt m x)).own = false ∧ (b.toNat = (absPap x).writer ∨ f.toNat = (absPap x).writer)) ↔ ((stepAt m x).own = 0 ∧ (x.writer = b ∨ x.writer = f)) := by
    rw [eo]
    show (_ ∧ (b.toNat = x.writer.toNat ∨ f.toNat = x.writer.toNat)) ↔ _
    rw [toNat_inj hb X.w0, toNat_inj hf X.w0, eq_comm (a := b), eq_comm (a := f)]
  dsimp only
  rw [e1, e2, e3]
  unfold refusal
  have eh : ((absPap x).how ≠ How.running) ↔ x.state ≠ 0 := abs_how0 X.h0 X.h1
  by_cases c1 : x.state ≠ 0
  · rw [if_pos (eh.mpr c1), if_pos c1]; rfl
  rw [if_neg (fun q => c1 (eh.mp q)), if_neg c1]
  by_cases c2 : stands m b f = false
  · rw [if_pos c2, if_pos c2]; rfl
  rw [if_neg c2, if_neg c2]
  by_cases c3 : entitled m f (stepAt m x).role x.level = false
  · rw [if_pos c3, if_pos c3]; rfl
  rw [if_neg c3, if_neg c3]
  by_cases c4 : (stepAt m x).own = 0 ∧ (x.writer = b ∨ x.writer = f)
  · rw [if_pos (ew.mpr c4), if_pos c4]; rfl
  rw [if_neg (fun q => c4 (ew.mp q)), if_neg c4]
  by_cases c5 : inRound x b f = true
  · rw [if_pos c5, if_pos c5]; rfl
  rw [if_neg c5, if_neg c5]
  by_cases c6 : inApart m x b f = true
  · rw [if_pos c6, if_pos c6]; rfl
  rw [if_neg c6, if_neg c6]
  rfl
theorem refusal_le (m : Off) (b f : Int) (x : Pap) : refusal m b f x ≤ 0 ∧ -9 ≤ refusal m b f x := by
  unfold refusal
  split
  · decide
  · split
    · decide
    · split
      · decide
      · split
        · decide
        · split
          · decide
          · split <;> decide
end Po
namespace Po
open Sg50 (rolesOf How)
/-! ### what's done -/
def p00 : Pap := ⟨0, 0, 0, 0, 0, 0, 0, []⟩
def pap (m : Off) (k : Int) : Pap := m.papers.getD k.toNat p00
def comes (m : Off) (x : Pap) (n : Int) : Pap := { x with step := n, level := 0, due := m.today + (stepAt m { x with step := n }).days }
def noted (x : Pap) (b f s : Int) : Pap := { x with acts := x.acts ++ [⟨x.step, x.turn, b, f, s⟩] }
def goOn (m : Off) (x : Pap) : Pap := if x.step + 1 = (stepsAt m x).length then { x with state := 1 } else comes m x (x.step + 1)
def goBack (m : Off) (x : Pap) : Pap := if (stepAt m x).back = -1 ∨ x.turn = 10 then { x with state := 2 } else comes m { x with turn := x.turn + 1 } (stepAt m x).back
def signing (m : Off) (x : Pap) (b f : Int) : Pap :=
  if (cnt (noted x b f 1).acts x.step x.turn : Int) = (stepAt m x).sig then goOn m (noted x b f 1) else noted x b f 1
def refusing (m : Off) (x : Pap) (b f : Int) : Pap := goBack m (noted x b f 0)
def put (m : Off) (k : Int) (x : Pap) : Off := { m with papers := m.papers.set k.toNat x }
def tryAct (m : Off) (b f k : Int) : Int :=
  if (has m.people.length b && has m.people.length f && has m.papers.length k) = false then -2 else refusal m b f (pap m k)
def mSign (m : Off) (b f k : Int) : Off × Int := if tryAct m b f k < 0 then (m, tryAct m b f k) else (put m k (signing m (pap m k) b f), (signing m (pap m k) b f).state)
def mRefuse (m : Off) (b f k : Int) : Off × Int := if tryAct m b f k < 0 then (m, tryAct m b f k) else (put m k (refusing m (pap m k) b f), (refusing m (pap m k) b f).state)
def isRoles (r : Int) : Bool := decide (0 ≤ r) && decide (r ≤ 65535)
def isRole (r : Int) : Bool := decide (0 ≤ r) && decide (r ≤ 15)
def mPerson (m : Off) (r ch : Int) : Off × Int :=
  if (isRoles r && (decide (ch = -1) || has m.people.length ch)) = false then (m, -2)
  else if (m.people.length : Int) = 32 then (m, -8)
  else ({ m with people := m.people ++ [⟨r, ch, -1, 0⟩] }, m.people.length)
def setPer (m : Off) (p : Int) (q : Per) : Off := { m with people := m.people.set p.toNat q }
def mRoles (m : Off) (p r : Int) : Off × Int := if (has m.people.length p && isRoles r) = false then (m, -2) else (setPer m p { per m p with roles := r }, 0)
def mApart (m : Off) (r s : Int) : Off × Int :=
  if (isRole r && isRole s) = false then (m, -2) else if (m.papers.length : Int) > 0 then (m, -3) else ({ m with apart := m.apart ++ [(r, s)] }, 0)
def mFile (m : Off) (w p : Int) : Off × Int :=
  if (has m.people.length w && has m.procs.length p) = false then (m, -2)
  else if (m.papers.length : Int) = 256 then (m, -8)
  else ({ m with papers := m.papers ++ [comes m ⟨w, p, 0, 0, 0, 0, 0, []⟩ 0] }, m.papers.length)
def mWithdraw (m : Off) (b k : Int) : Off × Int :=
  if (has m.people.length b && has m.papers.length k) = false then (m, -2)
  else if (pap m k).state ≠ 0 then (m, -3) else if b ≠ (pap m k).writer then (m, -6) else (put m k { pap m k with state := 3 }, 0)
def mAway (m : Off) (p t u : Int) : Off × Int :=
  if (has m.people.length p && has m.people.length t && (!decide (p = t)) && (decide (m.today ≤ u) && decide (u ≤ m.today + 1000))) = false then (m, -2)
  else (setPer m p { per m p with sin := t, till := u }, 0)
/-- z: what stands as the day when nobody acts for them: of no weight -/
def mBack (m : Off) (p z : Int) : Off × Int := if has m.people.length p = false then (m, -2) else (setPer m p { per m p with sin := -1, till := z }, 0)
def late (m : Off) (x : Pap) : Pap :=
  if x.state ≠ 0 ∨ m.today ≤ x.due then x
  else if x.level < 5 then { x with level := x.level + 1, due := m.today + (stepAt m x).days }
  else { x with state := 4 }
def day (m : Off) : Off := { m with today := m.today + 1, papers := m.papers.map (late { m with today := m.today + 1 }) }
def days (m : Off) : Nat → Off
  | 0 => m
  | n + 1 => days (day m) n
def mDays (m : Off) (n : Int) : Off × Int := if (decide (1 ≤ n) && decide (n ≤ 30)) = false then (m, -2) else (days m n.toNat, (days m n.toNat).today)
/-! ### a paper is laid anew -/
theorem abs_put (m : Off) {k : Int} (x : Pap) : absOff (put m k x) = (absOff m).put k.toNat (absPap x) := by
  unfold Sg50.Office.put absOff put
  dsimp only
  rw [List.map_set]
theorem mem_set {α : Type} {l : List α} {i : Nat} {a b : α} (h : b ∈ l.set i a) : b ∈ l ∨ b = a := List.mem_or_eq_of_mem_set h
theorem WOff.put {m : Off} (W : WOff m) {k : Int} {x : Pap} (X : WPap m.people.length m.procs x) : WOff (put m k x) :=
  ⟨W.n, W.per, W.ap, W.k, W.pr, by show (m.papers.set _ _).length ≤ 256; rw [List.length_set]; exact W.j, fun y hy => (mem_set hy).elim (W.pa y) (fun e => by rw [e]; exact X), W.td⟩
theorem WOff.pap {m : Off} (W : WOff m) {k : Int} (h : has m.papers.length k = true) : WPap m.people.length m.procs (pap m k) :=
  W.pa _ (getD_mem (by have := has_iff.mp h; omega))
theorem cnt0 {l : List Ac} {s t : Int} (h : ∀ a ∈ l, ¬ (a.step = s ∧ a.turn = t)) : cnt l s t = 0 := by
  unfold cnt
  rw [List.length_eq_zero_iff, List.filter_eq_nil_iff]
  intro a ha q
  simp only [Bool.and_eq_true, decide_eq_true_eq] at q
  exact h a ha q.2
theorem cnt_snoc (l : List Ac) (a : Ac) (s t : Int) : cnt (l ++ [a]) s t = cnt l s t + if a.signed = 1 ∧ a.step = s ∧ a.turn = t then 1 else 0 := by
  unfold cnt
  rw [List.filter_append, List.length_append]
  congr 1
  by_cases h : a.signed = 1 ∧ a.step = s ∧ a.turn = t
  · rw [if_pos h]; simp [h]
  · rw [if_neg h]
    have : (decide (a.signed = 1) && (decide (a.step = s) && decide (a.turn = t))) = false := by
      rw [Bool.eq_false_iff]
      intro q
      simp only [Bool.and_eq_true, decide_eq_true_eq] at q
      exact h q
    simp [this]
theorem abs_signed {n : Nat} {pr : List (List Stp)} {x : Pap} (X : WPap n pr x) (l : List Ac) (hl : ∀ a ∈ l, 0 ≤ a.step ∧ 0 ≤ a.turn) : Sg50.Paper.signed { absPap x with acts := l.map absAc } = cnt l x.step x.turn := by
  unfold Sg50.Paper.signed cnt
  dsimp only
  rw [List.filter_map, List.length_map]
  congr 1
  refine List.filter_congr fun a ha => ?_
  show (decide (a.signed = 1) && (a.step.toNat == x.step.toNat && a.turn.toNat == x.turn.toNat)) = _
  rw [beq_toNat (hl a ha).1 X.s0, beq_toNat (hl a ha).2 X.t0]
theorem abs_comes (m : Off) (x : Pap) {n t : Int} (h : 0 ≤ (stepAt m { x with step := n }).days) :
    (absOff m).comes (absPap x) n.toNat t.toNat = absPap (comes m { x with turn := t } n) := by
  unfold Sg50.Office.comes comes
  dsimp only
  have e : (absOff m).step { absPap x with step := n.toNat, round := t.toNat, level := 0 } = absStp (stepAt m { x with step := n }) := abs_step m { x with step := n, turn := t, level := 0 }
  rw [e]
  have e2 : ((absStp (stepAt m { x with step := n })).days : Int) = (stepAt m { x with step := n }).days := by
    show (((stepAt m { x with step := n }).days.toNat : Nat) : Int) = _
    omega
  rw [e2]
  rfl
theorem stepAt_congr {m : Off} {x y : Pap} (h : x.proc = y.proc) (h2 : x.step = y.step) : stepAt m x = stepAt m y := by
  unfold stepAt stepsAt
  rw [h, h2]
theorem WOff.stpn {m : Off} (W : WOff m) {x : Pap} (X : WPap m.people.length m.procs x) {n : Int} (h0 : 0 ≤ n) (h1 : n < (stepsAt m x).length) : WStp n.toNat (stepAt m { x with step := n }) :=
  W.stp X (j := n.toNat) (by omega)
theorem WOff.came {m : Off} (W : WOff m) {x : Pap} (X : WPap m.people.length m.procs x) {l : List Ac} {n t : Int} (h0 : 0 ≤ n) (h1 : n < (stepsAt m x).length) (t0 : 0 ≤ t) (t1 : t ≤ 10)
    (ac : ∀ a ∈ l, WAc m.people.length (stepsAt m x).length a) (lex : ∀ a ∈ l, a.turn < t ∨ (a.turn = t ∧ a.step < n)) : WPap m.people.length m.procs (comes m { x with acts := l, turn := t } n) := by
  refine ⟨X.w0, X.w1, X.p0, X.p1, X.h0, X.h1, h0, h1, t0, t1, Int.le_refl 0, (show (0 : Int) ≤ 5 by decide), ac, fun a ha => (lex a ha).imp id fun q => ⟨q.1, Int.le_of_lt q.2⟩, fun _ => ?_⟩
  show (cnt l n t : Int) < (stepAt m { x with step := n }).sig
  rw [cnt0 fun a ha q => (by have := lex a ha; omega)]
  have := (W.stpn X h0 h1).g0
  omega
theorem WPap.state {n : Nat} {pr : List (List Stp)} {x : Pap} (X : WPap n pr x) {z : Int} (h : z = 1 ∨ z = 2 ∨ z = 3 ∨ z = 4) : WPap n pr { x with state := z } := by
  obtain ⟨a1, a2, a3, a4, a5, a6, a7, a8, a9, b1, b2, b3, b4, b5, b6⟩ := X
  exact ⟨a1, a2, a3, a4, by dsimp only; omega, by dsimp only; omega, a7, a8, a9, b1, b2, b3, b4, b5, fun q => by dsimp only at q; omega⟩
section
variable {m : Off} {x : Pap} {b f : Int}
theorem noted_ac (X : WPap m.people.length m.procs x) (hb : has m.people.length b = true) (hf : has m.people.length f = true) {s : Int} (hs : s = 0 ∨ s = 1) : ∀ a ∈ (noted x b f s).acts, WAc m.people.length (stepsAt m x).length a := by
  intro a ha
  rcases List.mem_append.mp ha with q | q
  · exact X.ac a q
  · rw [List.mem_singleton.mp q]
    obtain ⟨b0, b1⟩ := has_iff.mp hb
    obtain ⟨f0, f1⟩ := has_iff.mp hf
    exact ⟨X.s0, X.s1, X.t0, b0, b1, f0, f1, hs⟩
theorem noted_lex (X : WPap m.people.length m.procs x) {s : Int} : ∀ a ∈ (noted x b f s).acts, a.turn < x.turn ∨ (a.turn = x.turn ∧ a.step ≤ x.step) := by
  intro a ha
  rcases List.mem_append.mp ha with q | q
  · exact X.lex a q
  · rw [List.mem_singleton.mp q]
    exact Or.inr ⟨rfl, Int.le_refl _⟩
theorem abs_noted1 : (absPap x).acts ++ [⟨(absPap x).step, (absPap x).round, b.toNat, f.toNat, true⟩] = (noted x b f 1).acts.map absAc := by
  show x.acts.map absAc ++ _ = (x.acts ++ _).map absAc
  rw [List.map_append]
  rfl
theorem abs_noted0 : (absPap x).acts ++ [⟨(absPap x).step, (absPap x).round, b.toNat, f.toNat, false⟩] = (noted x b f 0).acts.map absAc := by
  show x.acts.map absAc ++ _ = (x.acts ++ _).map absAc
  rw [List.map_append]
  rfl
/-- **signing is the specification's** -/
theorem abs_signing (W : WOff m) (X : WPap m.people.length m.procs x) (h0 : x.state = 0) (hb : has m.people.length b = true) (hf : has m.people.length f = true) :
    (absOff m).signing (absPap x) b.toNat f.toNat = absPap (signing m x b f) ∧ WPap m.people.length m.procs (signing m x b f) := by
  have AC := noted_ac X hb hf (Or.inr rfl : (1 : Int) = 0 ∨ (1 : Int) = 1)
  have LX := noted_lex (b := b) (f := f) (s := 1) X
  have hfew := X.few h0
  have ec : cnt (noted x b f 1).acts x.step x.turn = cnt x.acts x.step x.turn + 1 := by
    show cnt (x.acts ++ [_]) _ _ = _
    rw [cnt_snoc, if_pos ⟨rfl, rfl, rfl⟩]
  have S := W.stp1 X
  have ey : ({ absPap x with acts := (absPap x).acts ++ [⟨(absPap x).step, (absPap x).round, b.toNat, f.toNat, true⟩] } : Sg50.Paper) = absPap (noted x b f 1) := by
    unfold absPap noted
    dsimp only
    rw [List.map_append]
    rfl
  have es : (absPap (noted x b f 1)).signed = cnt (noted x b f 1).acts x.step x.turn := abs_signed X (noted x b f 1).acts fun a ha => ⟨(AC a ha).s0, (AC a ha).t0⟩
  unfold Sg50.Office.signing
  dsimp only
  rw [ey, es, ec, abs_step, abs_steps, List.length_map]
  unfold signing
  rw [ec]
  have hsig : (cnt x.acts x.step x.turn : Int) < (stepAt m x).sig := hfew
  have en : (absStp (stepAt m x)).need = (stepAt m x).sig.toNat := rfl
  rw [en]
  by_cases c : ((cnt x.acts x.step x.turn + 1 : Nat) : Int) = (stepAt m x).sig
  · rw [if_neg (by omega), if_pos c]
    unfold goOn
    have el : (stepsAt m (noted x b f 1)).length = (stepsAt m x).length := rfl
    have x1 : x.step < (stepsAt m x).length := X.s1
    have x0 := X.s0
    by_cases c2 : (noted x b f 1).step + 1 = (stepsAt m (noted x b f 1)).length
    · have c2' : x.step + 1 = (stepsAt m x).length := c2
      rw [if_pos c2, if_neg (by show ¬ (x.step.toNat + 1 < (stepsAt m x).length); omega)]
      refine ⟨congrArg (fun l => (⟨x.proc.toNat, x.writer.toNat, x.step.toNat, x.turn.toNat, x.level.toNat, x.due, l, How.approved⟩ : Sg50.Paper)) abs_noted1, ?_⟩
      obtain ⟨a1, a2, a3, a4, a5, a6, a7, a8, a9, b1, b2, b3, b4, b5, b6⟩ := X
      exact ⟨a1, a2, a3, a4, by show (0 : Int) ≤ 1; decide, by show (1 : Int) ≤ 4; decide, a7, a8, a9, b1, b2, b3, AC, LX, fun q => by have q' : (1 : Int) = 0 := q; omega⟩
    · have c2' : ¬ x.step + 1 = (stepsAt m x).length := c2
      rw [if_neg c2, if_pos (by show x.step.toNat + 1 < (stepsAt m x).length; omega)]
      have hn : x.step + 1 < (stepsAt m x).length := by omega
      have D := W.stpn X (n := x.step + 1) (by omega) hn
      have e := abs_comes m (noted x b f 1) (n := x.step + 1) (t := x.turn) (by have := D.d0; show (0 : Int) ≤ (stepAt m { x with step := x.step + 1 }).days; omega)
      have et : (x.step + 1).toNat = x.step.toNat + 1 := by omega
      rw [et] at e
      refine ⟨e, W.came X (l := (noted x b f 1).acts) (n := x.step + 1) (t := x.turn) (by omega) hn X.t0 X.t1 AC fun a ha => ?_⟩
      have := LX a ha
      omega
  · rw [if_pos (by omega), if_neg c]
    refine ⟨rfl, ?_⟩
    obtain ⟨a1, a2, a3, a4, a5, a6, a7, a8, a9, b1, b2, b3, b4, b5, b6⟩ := X
    exact ⟨a1, a2, a3, a4, a5, a6, a7, a8, a9, b1, b2, b3, AC, LX, fun _ => by
      show ((cnt (noted x b f 1).acts x.step x.turn : Nat) : Int) < (stepAt m x).sig
      rw [ec]
      omega⟩
/-- **refusing is the specification's** -/
theorem abs_refusing (W : WOff m) (X : WPap m.people.length m.procs x) (hb : has m.people.length b = true) (hf : has m.people.length f = true) :
    (absOff m).refusing (absPap x) b.toNat f.toNat = absPap (refusing m x b f) ∧ WPap m.people.length m.procs (refusing m x b f) := by
  have AC := noted_ac X hb hf (Or.inl rfl : (0 : Int) = 0 ∨ (0 : Int) = 1)
  have LX := noted_lex (b := b) (f := f) (s := 0) X
  have S := W.stp1 X
  have ey : ({ absPap x with acts := (absPap x).acts ++ [⟨(absPap x).step, (absPap x).round, b.toNat, f.toNat, false⟩] } : Sg50.Paper) = absPap (noted x b f 0) := by
    unfold absPap noted
    dsimp only
    rw [List.map_append]
    rfl
  unfold Sg50.Office.refusing
  dsimp only
  rw [ey, abs_step]
  have e0 : stepAt m (noted x b f 0) = stepAt m x := rfl
  have done_ : WPap m.people.length m.procs { noted x b f 0 with state := 2 } := by
    obtain ⟨a1, a2, a3, a4, a5, a6, a7, a8, a9, b1, b2, b3, b4, b5, b6⟩ := X
    exact ⟨a1, a2, a3, a4, by show (0 : Int) ≤ 2; decide, by show (2 : Int) ≤ 4; decide, a7, a8, a9, b1, b2, b3, AC, LX, fun q => by have q' : (2 : Int) = 0 := q; omega⟩
  unfold refusing goBack
  rw [e0]
  show (match opt (stepAt m x).back with | none => _ | some j => _) = _ ∧ _
  by_cases c : (stepAt m x).back < 0
  · have c' : (stepAt m x).back = -1 := by have := S.b0; omega
    rw [opt_neg c, if_pos (Or.inl c')]
    exact ⟨congrArg (fun l => (⟨x.proc.toNat, x.writer.toNat, x.step.toNat, x.turn.toNat, x.level.toNat, x.due, l, How.refused⟩ : Sg50.Paper)) abs_noted0, done_⟩
  · rw [opt_nat (by omega)]
    show (if Sg50.ROUNDS ≤ x.turn.toNat then _ else _) = _ ∧ _
    have t0 := X.t0
    have t1 := X.t1
    by_cases c2 : x.turn = 10
    · rw [if_pos (by show 10 ≤ x.turn.toNat; omega), if_pos (Or.inr (show (noted x b f 0).turn = 10 from c2))]
      exact ⟨congrArg (fun l => (⟨x.proc.toNat, x.writer.toNat, x.step.toNat, x.turn.toNat, x.level.toNat, x.due, l, How.refused⟩ : Sg50.Paper)) abs_noted0, done_⟩
    · rw [if_neg (by show ¬ 10 ≤ x.turn.toNat; omega), if_neg (show ¬ ((stepAt m x).back = -1 ∨ (noted x b f 0).turn = 10) from fun q => q.elim (fun q => by omega) fun q => c2 q)]
      have hs : x.step < (stepsAt m x).length := X.s1
      have hs0 := X.s0
      have hb1 := S.b1
      have hn : (stepAt m x).back < (stepsAt m x).length := by omega
      have D := W.stpn X (n := (stepAt m x).back) (by omega) hn
      have e := abs_comes m (noted x b f 0) (n := (stepAt m x).back) (t := x.turn + 1) (by have := D.d0; show (0 : Int) ≤ (stepAt m { x with step := (stepAt m x).back }).days; omega)
      have et : (x.turn + 1).toNat = x.turn.toNat + 1 := by omega
      rw [et] at e
      refine ⟨e, W.came X (l := (noted x b f 0).acts) (n := (stepAt m x).back) (t := x.turn + 1) (by omega) hn (by omega) (by omega) AC fun a ha => ?_⟩
      have := LX a ha
      omega
end
end Po
namespace Po
open Sg50 (rolesOf How)
/-! ### each call -/
section
variable {m : Off}
theorem and_f {a b : Bool} : (a && b) = false ↔ a = false ∨ b = false := by cases a <;> cases b <;> simp
theorem nf {a : Bool} (h : ¬ a = false) : a = true := by cases a <;> simp_all
theorem len_people (m : Off) : (absOff m).people.length = m.people.length := List.length_map _
theorem len_papers (m : Off) : (absOff m).papers.length = m.papers.length := List.length_map _
theorem len_procs (m : Off) : (absOff m).procedures.length = m.procs.length := List.length_map _
theorem within_roles (r : Int) : Sg50.within r 0 65535 = isRoles r := rfl
theorem below_role (r : Int) : Sg50.below r Sg50.ROLES = isRole r := by
  unfold Sg50.below isRole Sg50.ROLES
  congr 1
  by_cases h : r ≤ 15
  · rw [decide_eq_true h, decide_eq_true (by omega)]
  · rw [decide_eq_false h, decide_eq_false (by omega)]
theorem absOff_per (m : Off) (l : List Per) : absOff { m with people := l } = { absOff m with people := l.map absPer } := rfl
theorem WPer.mono {n k : Nat} {p : Per} (W : WPer n p) (h : n ≤ k) : WPer k p := ⟨W.r0, W.r1, W.c0, by have := W.c1; omega, W.s0, by have := W.s1; omega⟩
theorem WAc.mono {n k L : Nat} {p : Ac} (W : WAc n L p) (h : n ≤ k) : WAc k L p := ⟨W.s0, W.s1, W.t0, W.b0, by have := W.b1; omega, W.f0, by have := W.f1; omega, W.g⟩
theorem WPap.mono {n k : Nat} {pr : List (List Stp)} {x : Pap} (X : WPap n pr x) (h : n ≤ k) : WPap k pr x := by
  obtain ⟨a1, a2, a3, a4, a5, a6, a7, a8, a9, b1, b2, b3, b4, b5, b6⟩ := X
  exact ⟨a1, by omega, a3, a4, a5, a6, a7, a8, a9, b1, b2, b3, fun a ha => (b4 a ha).mono h, b5, b6⟩
theorem does_person (W : WOff m) (r ch : Int) : Sg50.does (absOff m) (.person r ch) = (absOff (mPerson m r ch).1, Sg50.only (mPerson m r ch).2) ∧ WOff (mPerson m r ch).1 := by
  unfold Sg50.does mPerson
  dsimp only
  simp only [len_people, below_has, within_roles]
  have e : ((isRoles r = false) ∨ (ch ≠ -1 ∧ has m.people.length ch = false)) ↔ (isRoles r && (decide (ch = -1) || has m.people.length ch)) = false := by
    by_cases h : ch = -1
    · simp [h]
    · rw [decide_eq_false h, Bool.false_or, and_f]
      exact ⟨fun q => q.imp id fun z => z.2, fun q => q.imp id fun z => ⟨h, z⟩⟩
  by_cases c : (isRoles r && (decide (ch = -1) || has m.people.length ch)) = false
  · rw [if_pos (e.mpr c), if_pos c]
    exact ⟨rfl, W⟩
  · rw [if_neg (fun q => c (e.mp q)), if_neg c]
    have hn := W.n
    by_cases c2 : (m.people.length : Int) = 32
    · rw [if_pos (by show 32 ≤ _; omega), if_pos c2]
      exact ⟨rfl, W⟩
    · rw [if_neg (by show ¬ 32 ≤ _; omega), if_neg c2]
      have c3 : isRoles r = true ∧ (ch = -1 ∨ has m.people.length ch = true) := by
        have c := (Bool.not_eq_false _).mp c
        simp only [Bool.and_eq_true, Bool.or_eq_true, decide_eq_true_eq] at c
        exact c
      have hr : 0 ≤ r ∧ r ≤ 65535 := by
        have := c3.1
        unfold isRoles at this
        simp only [Bool.and_eq_true, decide_eq_true_eq] at this
        exact this
      have hc : -1 ≤ ch ∧ ch < m.people.length := by
        rcases c3.2 with q | q
        · omega
        · have := has_iff.mp q; omega
      refine ⟨?_, ?_, ?_, W.ap, W.k, W.pr, W.j, ?_, W.td⟩
      · have e1 : (absOff m).people ++ [(⟨rolesOf r.toNat, if ch < 0 then none else some ch.toNat, none⟩ : Sg50.Person)] = (m.people ++ [(⟨r, ch, -1, 0⟩ : Per)]).map absPer := by
          rw [List.map_append]
          rfl
        rw [e1]
        rfl
      · show (m.people ++ [_]).length ≤ 32
        rw [List.length_append]
        show m.people.length + 1 ≤ 32
        omega
      · intro p hp
        show WPer (m.people ++ [_]).length p
        rw [List.length_append]
        rcases List.mem_append.mp hp with q | q
        · exact (W.per p q).mono (by omega)
        · rw [List.mem_singleton.mp q]
          exact ⟨hr.1, hr.2, hc.1, by dsimp only [List.length]; omega, by dsimp only; omega, by dsimp only [List.length]; omega⟩
      · intro x hx
        show WPap (m.people ++ [_]).length _ x
        rw [List.length_append]
        exact (W.pa x hx).mono (by omega)
theorem WOff.setPer (W : WOff m) {p : Int} {q : Per} (Q : WPer m.people.length q) : WOff (setPer m p q) := by
  have e : (m.people.set p.toNat q).length = m.people.length := List.length_set
  refine ⟨by show (m.people.set _ _).length ≤ 32; rw [e]; exact W.n, fun z hz => ?_, W.ap, W.k, W.pr, W.j, fun x hx => ?_, W.td⟩
  · show WPer (m.people.set _ _).length z
    rw [e]
    exact (mem_set hz).elim (W.per z) fun e => by rw [e]; exact Q
  · show WPap (m.people.set _ _).length _ x
    rw [e]
    exact W.pa x hx
theorem abs_setPer (m : Off) (p : Int) (q : Per) : absOff (setPer m p q) = { absOff m with people := (absOff m).people.set p.toNat (absPer q) } := by
  unfold setPer
  rw [absOff_per, List.map_set]
  rfl
theorem WOff.per1 (W : WOff m) {p : Int} (h : has m.people.length p = true) : WPer m.people.length (Po.per m p) := W.at_ (by have := has_iff.mp h; omega)
theorem abs_per1 {p : Int} (h : has m.people.length p = true) : (absOff m).person p.toNat = absPer (per m p) := abs_person (by have := has_iff.mp h; omega)
theorem isRoles_iff {r : Int} : isRoles r = true ↔ 0 ≤ r ∧ r ≤ 65535 := by simp [isRoles]
theorem isRole_iff {r : Int} : isRole r = true ↔ 0 ≤ r ∧ r ≤ 15 := by simp [isRole]
theorem does_roles (W : WOff m) (p r : Int) : Sg50.does (absOff m) (.roles p r) = (absOff (mRoles m p r).1, Sg50.only (mRoles m p r).2) ∧ WOff (mRoles m p r).1 := by
  unfold Sg50.does mRoles
  dsimp only
  simp only [len_people, below_has, within_roles]
  by_cases c : (has m.people.length p && isRoles r) = false
  · rw [if_pos (and_f.mp c), if_pos c]
    exact ⟨rfl, W⟩
  · rw [if_neg (fun q => c (and_f.mpr q)), if_neg c]
    have c' := Bool.and_eq_true_iff.mp (nf c)
    have P := W.per1 c'.1
    have R := isRoles_iff.mp c'.2
    exact ⟨by rw [abs_setPer, abs_per1 c'.1]; rfl, W.setPer ⟨R.1, R.2, P.c0, P.c1, P.s0, P.s1⟩⟩
theorem does_away (W : WOff m) (p t u : Int) : Sg50.does (absOff m) (.away p t u) = (absOff (mAway m p t u).1, Sg50.only (mAway m p t u).2) ∧ WOff (mAway m p t u).1 := by
  unfold Sg50.does mAway
  dsimp only
  simp only [len_people, below_has, below_has]
  have e : (has m.people.length p = false ∨ has m.people.length t = false ∨ p = t ∨ Sg50.within u (absOff m).today ((absOff m).today + 1000) = false) ↔
      (has m.people.length p && has m.people.length t && (!decide (p = t)) && (decide (m.today ≤ u) && decide (u ≤ m.today + 1000))) = false := by
    show (_ ∨ _ ∨ _ ∨ (decide (m.today ≤ u) && decide (u ≤ m.today + 1000)) = false) ↔ _
    rw [and_f (b := decide (m.today ≤ u) && _), and_f (b := !_), and_f (b := has m.people.length t), Bool.not_eq_false', decide_eq_true_eq, or_assoc, or_assoc]
  by_cases c : (has m.people.length p && has m.people.length t && (!decide (p = t)) && (decide (m.today ≤ u) && decide (u ≤ m.today + 1000))) = false
  · rw [if_pos (e.mpr c), if_pos c]
    exact ⟨rfl, W⟩
  · rw [if_neg (fun q => c (e.mp q)), if_neg c]
    have c' := nf c
    simp only [Bool.and_eq_true] at c'
    obtain ⟨⟨⟨h1, h2⟩, _⟩, _⟩ := c'
    have P := W.per1 h1
    have T := has_iff.mp h2
    refine ⟨?_, W.setPer ⟨P.r0, P.r1, P.c0, P.c1, by dsimp only; omega, T.2⟩⟩
    rw [abs_setPer, abs_per1 h1]
    have e2 : absPer { per m p with sin := t, till := u } = { absPer (per m p) with away := some (t.toNat, u) } := by
      unfold absPer
      dsimp only
      rw [if_neg (show ¬ t < 0 by omega)]
    rw [e2]
theorem does_back (W : WOff m) (p z : Int) : Sg50.does (absOff m) (.back p) = (absOff (mBack m p z).1, Sg50.only (mBack m p z).2) ∧ WOff (mBack m p z).1 := by
  unfold Sg50.does mBack
  dsimp only
  simp only [len_people, below_has]
  by_cases c : has m.people.length p = false
  · rw [if_pos c, if_pos c]
    exact ⟨rfl, W⟩
  · rw [if_neg c, if_neg c]
    have P := W.per1 (nf c)
    refine ⟨?_, W.setPer ⟨P.r0, P.r1, P.c0, P.c1, by dsimp only; omega, by dsimp only; omega⟩⟩
    rw [abs_setPer, abs_per1 (nf c)]
    rfl
theorem map_nil {α β : Type} {f : α → β} {l : List α} : l.map f ≠ [] ↔ (l.length : Int) > 0 := by
  cases l with
  | nil => simp
  | cons a r => simp only [List.map_cons, ne_eq, reduceCtorEq, not_false_eq_true, List.length_cons, true_iff]; omega
theorem does_apart (W : WOff m) (r s : Int) : Sg50.does (absOff m) (.apart r s) = (absOff (mApart m r s).1, Sg50.only (mApart m r s).2) ∧ WOff (mApart m r s).1 := by
  unfold Sg50.does mApart
  dsimp only
  simp only [below_role, below_role]
  by_cases c : (isRole r && isRole s) = false
  · rw [if_pos (and_f.mp c), if_pos c]
    exact ⟨rfl, W⟩
  · rw [if_neg (fun q => c (and_f.mpr q)), if_neg c]
    by_cases c2 : (m.papers.length : Int) > 0
    · rw [if_pos (show (absOff m).papers ≠ [] from map_nil.mpr c2), if_pos c2]
      exact ⟨rfl, W⟩
    · rw [if_neg (show ¬ (absOff m).papers ≠ [] from fun q => c2 (map_nil.mp q)), if_neg c2]
      have c' := Bool.and_eq_true_iff.mp (nf c)
      have R := isRole_iff.mp c'.1
      have S := isRole_iff.mp c'.2
      refine ⟨?_, W.n, W.per, fun p hp => ?_, W.k, W.pr, W.j, W.pa, W.td⟩
      · unfold absOff
        dsimp only
        rw [List.map_append]
        rfl
      · rcases List.mem_append.mp hp with q | q
        · exact W.ap p q
        · rw [List.mem_singleton.mp q]
          exact ⟨R, S⟩
theorem does_file (W : WOff m) (w p : Int) : Sg50.does (absOff m) (.file w p) = (absOff (mFile m w p).1, Sg50.only (mFile m w p).2) ∧ WOff (mFile m w p).1 := by
  unfold Sg50.does mFile
  dsimp only
  simp only [len_people, len_papers, len_procs, below_has, below_has]
  by_cases c : (has m.people.length w && has m.procs.length p) = false
  · rw [if_pos (and_f.mp c), if_pos c]
    exact ⟨rfl, W⟩
  · rw [if_neg (fun q => c (and_f.mpr q)), if_neg c]
    have hj := W.j
    by_cases c2 : (m.papers.length : Int) = 256
    · rw [if_pos (by show 256 ≤ _; omega), if_pos c2]
      exact ⟨rfl, W⟩
    · rw [if_neg (by show ¬ 256 ≤ _; omega), if_neg c2]
      have c' := Bool.and_eq_true_iff.mp (nf c)
      obtain ⟨w0, w1⟩ := has_iff.mp c'.1
      obtain ⟨p0, p1⟩ := has_iff.mp c'.2
      have hp : m.procs.getD p.toNat [] ∈ m.procs := getD_mem (by omega)
      obtain ⟨l1, l2, hs⟩ := W.pr _ hp
      have S : WStp 0 (stepAt m ⟨w, p, 0, 0, 0, 0, 0, []⟩) := hs 0 _ (some_getD st0 (by omega))
      have X : WPap m.people.length m.procs ⟨w, p, 0, 0, 0, 0, 0, []⟩ :=
        ⟨w0, w1, p0, p1, Int.le_refl 0, (by show (0 : Int) ≤ 4; decide), Int.le_refl 0, (by show (0 : Int) < ((m.procs.getD p.toNat []).length : Int); omega), Int.le_refl 0, (by show (0 : Int) ≤ 10; decide), Int.le_refl 0,
          (by show (0 : Int) ≤ 5; decide), fun _ h => (by cases h), fun _ h => (by cases h), fun _ => by show (0 : Int) < (stepAt m ⟨w, p, 0, 0, 0, 0, 0, []⟩).sig; have := S.g0; omega⟩
      have Y := W.came X (l := []) (n := 0) (t := 0) (Int.le_refl 0) (by show (0 : Int) < ((m.procs.getD p.toNat []).length : Int); omega) (Int.le_refl 0) (by decide) (fun _ h => (by cases h)) (fun _ h => (by cases h))
      have e := abs_comes m ⟨w, p, 0, 0, 0, 0, 0, []⟩ (n := 0) (t := 0) (by have := S.d0; show (0 : Int) ≤ (stepAt m ⟨w, p, 0, 0, 0, 0, 0, []⟩).days; omega)
      refine ⟨?_, W.n, W.per, W.ap, W.k, W.pr, ?_, fun x hx => ?_, W.td⟩
      · have e' : (absOff m).comes ⟨p.toNat, w.toNat, 0, 0, 0, 0, [], .running⟩ 0 0 = absPap (comes m ⟨w, p, 0, 0, 0, 0, 0, []⟩ 0) := e
        rw [e']
        unfold absOff
        dsimp only
        rw [List.map_append]
        rfl
      · show (m.papers ++ [_]).length ≤ 256
        rw [List.length_append]
        show m.papers.length + 1 ≤ 256
        omega
      · rcases List.mem_append.mp hx with q | q
        · exact W.pa x q
        · rw [List.mem_singleton.mp q]
          exact Y
/-- a paper of this number -/
theorem at_paper {k : Int} (h : has m.papers.length k = true) : (absOff m).papers[k.toNat]? = some (absPap (pap m k)) := by
  show (m.papers.map absPap)[k.toNat]? = _
  rw [List.getElem?_map, some_getD p00 (by have := has_iff.mp h; omega)]
  rfl
theorem does_may (W : WOff m) (b f k : Int) : Sg50.does (absOff m) (.may b f k) = (absOff m, Sg50.only (tryAct m b f k)) := by
  unfold Sg50.does tryAct
  dsimp only
  simp only [len_people, len_papers, below_has, below_has, below_has]
  by_cases c : (has m.people.length b && has m.people.length f && has m.papers.length k) = false
  · rw [if_pos c]
    rcases and_f.mp c with q | q
    · rw [if_pos (and_f.mp q)]; rfl
    · by_cases c2 : has m.people.length b = false ∨ has m.people.length f = false
      · rw [if_pos c2]; rfl
      · rw [if_neg c2, if_pos q]; rfl
  · rw [if_neg c]
    have c' := nf c
    simp only [Bool.and_eq_true] at c'
    obtain ⟨⟨hb, hf⟩, hk⟩ := c'
    rw [if_neg (by simp [hb, hf]), if_neg (by simp [hk]), at_paper hk]
    dsimp only
    rw [abs_hinders W (W.pap hk) (has_iff.mp hb).1 (has_iff.mp hf).1 (has_iff.mp hf).2]
    by_cases z : refusal m b f (pap m k) = 0
    · rw [if_pos z, z]
    · rw [if_neg z]
theorem refusal0 {b f : Int} {x : Pap} (h : refusal m b f x = 0) : x.state = 0 := by
  unfold refusal at h
  by_cases c : x.state ≠ 0
  · rw [if_pos c] at h; cases h
  · omega
theorem does_sign (W : WOff m) (b f k : Int) : Sg50.does (absOff m) (.sign b f k) = (absOff (mSign m b f k).1, Sg50.only (mSign m b f k).2) ∧ WOff (mSign m b f k).1 := by
  unfold Sg50.does mSign
  dsimp only
  simp only [len_people, len_papers, below_has, below_has, below_has]
  by_cases c : (has m.people.length b && has m.people.length f && has m.papers.length k) = false
  · have e : tryAct m b f k = -2 := if_pos c
    rw [e, if_pos (show (-2 : Int) < 0 by decide)]
    refine ⟨?_, W⟩
    rcases and_f.mp c with q | q
    · rw [if_pos (and_f.mp q)]; rfl
    · by_cases c2 : has m.people.length b = false ∨ has m.people.length f = false
      · rw [if_pos c2]; rfl
      · rw [if_neg c2, if_pos q]; rfl
  · have e : tryAct m b f k = refusal m b f (pap m k) := if_neg c
    have c' := nf c
    simp only [Bool.and_eq_true] at c'
    obtain ⟨⟨hb, hf⟩, hk⟩ := c'
    have X := W.pap hk
    rw [e, if_neg (by simp [hb, hf]), if_neg (by simp [hk]), at_paper hk]
    dsimp only
    rw [abs_hinders W X (has_iff.mp hb).1 (has_iff.mp hf).1 (has_iff.mp hf).2]
    have := (refusal_le m b f (pap m k)).1
    by_cases z : refusal m b f (pap m k) = 0
    · rw [if_pos z, if_neg (by omega)]
      dsimp only
      obtain ⟨e1, Y⟩ := abs_signing W X (refusal0 z) hb hf
      rw [e1, abs_put]
      refine ⟨?_, W.put Y⟩
      rw [show (absPap (signing m (pap m k) b f)).how = absHow (signing m (pap m k) b f).state from rfl, how_of Y.h0 Y.h1]
    · rw [if_neg z, if_pos (by omega)]
      exact ⟨rfl, W⟩
theorem does_refuse (W : WOff m) (b f k : Int) : Sg50.does (absOff m) (.refuse b f k) = (absOff (mRefuse m b f k).1, Sg50.only (mRefuse m b f k).2) ∧ WOff (mRefuse m b f k).1 := by
  unfold Sg50.does mRefuse
  dsimp only
  simp only [len_people, len_papers, below_has, below_has, below_has]
  by_cases c : (has m.people.length b && has m.people.length f && has m.papers.length k) = false
  · have e : tryAct m b f k = -2 := if_pos c
    rw [e, if_pos (show (-2 : Int) < 0 by decide)]
    refine ⟨?_, W⟩
    rcases and_f.mp c with q | q
    · rw [if_pos (and_f.mp q)]; rfl
    · by_cases c2 : has m.people.length b = false ∨ has m.people.length f = false
      · rw [if_pos c2]; rfl
      · rw [if_neg c2, if_pos q]; rfl
  · have e : tryAct m b f k = refusal m b f (pap m k) := if_neg c
    have c' := nf c
    simp only [Bool.and_eq_true] at c'
    obtain ⟨⟨hb, hf⟩, hk⟩ := c'
    have X := W.pap hk
    rw [e, if_neg (by simp [hb, hf]), if_neg (by simp [hk]), at_paper hk]
    dsimp only
    rw [abs_hinders W X (has_iff.mp hb).1 (has_iff.mp hf).1 (has_iff.mp hf).2]
    have := (refusal_le m b f (pap m k)).1
    by_cases z : refusal m b f (pap m k) = 0
    · rw [if_pos z, if_neg (by omega)]
      dsimp only
      obtain ⟨e1, Y⟩ := abs_refusing W X hb hf
      rw [e1, abs_put]
      refine ⟨?_, W.put Y⟩
      rw [show (absPap (refusing m (pap m k) b f)).how = absHow (refusing m (pap m k) b f).state from rfl, how_of Y.h0 Y.h1]
    · rw [if_neg z, if_pos (by omega)]
      exact ⟨rfl, W⟩
theorem does_withdraw (W : WOff m) (b k : Int) : Sg50.does (absOff m) (.withdraw b k) = (absOff (mWithdraw m b k).1, Sg50.only (mWithdraw m b k).2) ∧ WOff (mWithdraw m b k).1 := by
  unfold Sg50.does mWithdraw
  dsimp only
  simp only [len_people, len_papers, below_has, below_has]
  by_cases c : (has m.people.length b && has m.papers.length k) = false
  · rw [if_pos c]
    refine ⟨?_, W⟩
    by_cases c2 : has m.people.length b = false
    · rw [if_pos c2]; rfl
    · rw [if_neg c2, if_pos ((and_f.mp c).resolve_left c2)]; rfl
  · rw [if_neg c]
    have c' := nf c
    simp only [Bool.and_eq_true] at c'
    obtain ⟨hb, hk⟩ := c'
    have X := W.pap hk
    rw [if_neg (by simp [hb]), if_neg (by simp [hk]), at_paper hk]
    dsimp only
    have eh : ((absPap (pap m k)).how ≠ How.running) ↔ (pap m k).state ≠ 0 := abs_how0 X.h0 X.h1
    by_cases c1 : (pap m k).state ≠ 0
    · rw [if_pos (eh.mpr c1), if_pos c1]
      exact ⟨rfl, W⟩
    · rw [if_neg (fun q => c1 (eh.mp q)), if_neg c1]
      have ew : (b.toNat ≠ (absPap (pap m k)).writer) ↔ b ≠ (pap m k).writer := by
        have := toNat_inj (has_iff.mp hb).1 X.w0
        exact not_congr this
      by_cases c2 : b ≠ (pap m k).writer
      · rw [if_pos (ew.mpr c2), if_pos c2]
        exact ⟨rfl, W⟩
      · rw [if_neg (fun q => c2 (ew.mp q)), if_neg c2]
        have Y := X.state (z := 3) (by omega)
        refine ⟨?_, W.put Y⟩
        rw [abs_put]
        rfl
/-! days -/
theorem abs_late (W : WOff m) {x : Pap} (X : WPap m.people.length m.procs x) : (absOff m).late (absPap x) = absPap (late m x) ∧ WPap m.people.length m.procs (late m x) := by
  unfold Sg50.Office.late late
  have eh : ((absPap x).how ≠ How.running) ↔ x.state ≠ 0 := abs_how0 X.h0 X.h1
  have e1 : ((absPap x).how ≠ How.running ∨ (absOff m).today ≤ (absPap x).due) ↔ (x.state ≠ 0 ∨ m.today ≤ x.due) := by rw [eh]; exact Iff.rfl
  have l0 := X.l0
  have l1 := X.l1
  by_cases c : x.state ≠ 0 ∨ m.today ≤ x.due
  · rw [if_pos (e1.mpr c), if_pos c]
    exact ⟨rfl, X⟩
  · rw [if_neg (fun q => c (e1.mp q)), if_neg c]
    by_cases c2 : x.level < 5
    · rw [if_pos (by show x.level.toNat < 5; omega), if_pos c2, abs_step]
      have S := W.stp1 X
      have d0 := S.d0
      refine ⟨?_, ?_⟩
      · unfold absPap
        dsimp only
        have e2 : ((absStp (stepAt m x)).days : Int) = (stepAt m x).days := by
          show (((stepAt m x).days.toNat : Nat) : Int) = _
          omega
        have e3 : (x.level + 1).toNat = x.level.toNat + 1 := by omega
        rw [e2, e3]
        rfl
      · obtain ⟨a1, a2, a3, a4, a5, a6, a7, a8, a9, b1, b2, b3, b4, b5, b6⟩ := X
        exact ⟨a1, a2, a3, a4, a5, a6, a7, a8, a9, b1, by dsimp only; omega, by dsimp only; omega, b4, b5, b6⟩
    · rw [if_neg (by show ¬ x.level.toNat < 5; omega), if_neg c2]
      exact ⟨rfl, X.state (by omega)⟩
theorem WOff.today (W : WOff m) {t : Int} (h : 0 ≤ t) : WOff { m with today := t } := ⟨W.n, W.per, W.ap, W.k, W.pr, W.j, W.pa, h⟩
theorem abs_day (W : WOff m) : (absOff m).day = absOff (day m) ∧ WOff (day m) := by
  have W1 := W.today (t := m.today + 1) (by have := W.td; omega)
  refine ⟨?_, W.n, W.per, W.ap, W.k, W.pr, ?_, fun x hx => ?_, W1.td⟩
  · unfold Sg50.Office.day day
    show (⟨m.people.map absPer, _, _, (m.papers.map absPap).map ((absOff { m with today := m.today + 1 }).late), m.today + 1⟩ : Sg50.Office) = ⟨m.people.map absPer, _, _, (m.papers.map (late { m with today := m.today + 1 })).map absPap, m.today + 1⟩
    rw [List.map_map, List.map_map]
    congr 1
    exact List.map_congr_left fun x hx => (abs_late W1 (W.pa x hx)).1
  · show (m.papers.map _).length ≤ 256
    rw [List.length_map]
    exact W.j
  · obtain ⟨y, hy, rfl⟩ := List.mem_map.mp hx
    exact (abs_late W1 (W.pa y hy)).2
theorem abs_days : ∀ (n : Nat) {m : Off}, WOff m → (absOff m).days n = absOff (days m n) ∧ WOff (days m n)
  | 0, _, W => ⟨rfl, W⟩
  | n + 1, m, W => by
    obtain ⟨e, W1⟩ := abs_day W
    show (absOff m).day.days n = _ ∧ _
    rw [e]
    exact abs_days n W1
theorem does_days (W : WOff m) (n : Int) : Sg50.does (absOff m) (.days n) = (absOff (mDays m n).1, Sg50.only (mDays m n).2) ∧ WOff (mDays m n).1 := by
  unfold Sg50.does mDays
  dsimp only
  rw [show Sg50.within n 1 30 = (decide (1 ≤ n) && decide (n ≤ 30)) from rfl]
  by_cases c : (decide (1 ≤ n) && decide (n ≤ 30)) = false
  · rw [if_pos c, if_pos c]
    exact ⟨rfl, W⟩
  · rw [if_neg c, if_neg c]
    obtain ⟨e, W1⟩ := abs_days n.toNat W
    rw [e]
    exact ⟨rfl, W1⟩
/-! what's told -/
def tellOf (x : Pap) : List Int := [x.state, x.proc, x.writer, x.step, x.turn, x.level, x.due, x.acts.length]
def actsOf (x : Pap) : List Int := (x.acts.length : Int) :: x.acts.flatMap fun a => [a.step, a.turn, a.by_, a.for_, a.signed]
def mTell (m : Off) (k : Int) : List Int := if has m.papers.length k = false then [-2] else tellOf (pap m k)
def mActs (m : Off) (k : Int) : List Int := if has m.papers.length k = false then [-2] else actsOf (pap m k)
def whoOf (m : Off) (x : Pap) : List Int := ((List.range m.people.length).map fun (i : Nat) => (i : Int)).filter fun z => decide (refusal m z z x = 0)
def mWho (m : Off) (k : Int) : List Int := if has m.papers.length k = false then [-2] else ((whoOf m (pap m k)).length : Int) :: whoOf m (pap m k)
def waitOf (m : Off) (p : Int) : List Int := ((List.range m.papers.length).map fun (i : Nat) => (i : Int)).filter fun z => decide (refusal m p p (pap m z) = 0)
def mWaiting (m : Off) (p : Int) : List Int := if has m.people.length p = false then [-2] else ((waitOf m p).length : Int) :: waitOf m p
theorem does_tell (W : WOff m) (k : Int) : (Sg50.does (absOff m) (.tell k)).1 = absOff m ∧ (Sg50.does (absOff m) (.tell k)).2.v :: (Sg50.does (absOff m) (.tell k)).2.l = mTell m k := by
  unfold Sg50.does mTell
  dsimp only
  simp only [len_papers, below_has]
  by_cases c : has m.papers.length k = false
  · rw [if_pos c, if_pos c]
    exact ⟨rfl, rfl⟩
  · rw [if_neg c, if_neg c, at_paper (nf c)]
    have X := W.pap (nf c)
    refine ⟨rfl, ?_⟩
    show Sg50.howOf (absHow (pap m k).state) :: [(((pap m k).proc.toNat : Nat) : Int), ((pap m k).writer.toNat : Int), ((pap m k).step.toNat : Int), ((pap m k).turn.toNat : Int), ((pap m k).level.toNat : Int), (pap m k).due, (((pap m k).acts.map absAc).length : Int)] = tellOf (pap m k)
    rw [how_of X.h0 X.h1, Int.toNat_of_nonneg X.p0, Int.toNat_of_nonneg X.w0, Int.toNat_of_nonneg X.s0, Int.toNat_of_nonneg X.t0, Int.toNat_of_nonneg X.l0, List.length_map]
    rfl
theorem flat_congr {α β : Type} {f g : α → List β} : ∀ {l : List α}, (∀ a ∈ l, f a = g a) → l.flatMap f = l.flatMap g
  | [], _ => rfl
  | a :: r, h => by
    rw [List.flatMap_cons, List.flatMap_cons, h a (List.mem_cons_self ..), flat_congr fun b hb => h b (List.mem_cons_of_mem _ hb)]
theorem does_acts (W : WOff m) (k : Int) : (Sg50.does (absOff m) (.acts k)).1 = absOff m ∧ (Sg50.does (absOff m) (.acts k)).2.v :: (Sg50.does (absOff m) (.acts k)).2.l = mActs m k := by
  unfold Sg50.does mActs
  dsimp only
  simp only [len_papers, below_has]
  by_cases c : has m.papers.length k = false
  · rw [if_pos c, if_pos c]
    exact ⟨rfl, rfl⟩
  · rw [if_neg c, if_neg c, at_paper (nf c)]
    have X := W.pap (nf c)
    refine ⟨rfl, ?_⟩
    show (((pap m k).acts.map absAc).length : Int) :: ((pap m k).acts.map absAc).flatMap _ = actsOf (pap m k)
    rw [List.length_map, List.flatMap_map]
    unfold actsOf
    congr 1
    refine flat_congr fun a ha => ?_
    have A := X.ac a ha
    show [((a.step.toNat : Nat) : Int), (a.turn.toNat : Int), (a.by_.toNat : Int), (a.for_.toNat : Int), if decide (a.signed = 1) = true then 1 else 0] = _
    rw [Int.toNat_of_nonneg A.s0, Int.toNat_of_nonneg A.t0, Int.toNat_of_nonneg A.b0, Int.toNat_of_nonneg A.f0]
    rcases A.g with e | e <;> rw [e] <;> rfl
theorem isNone_if {z : Int} : (if z = 0 then none else some z : Option Int).isNone = decide (z = 0) := by
  by_cases h : z = 0
  · rw [if_pos h, decide_eq_true h]; rfl
  · rw [if_neg h, decide_eq_false h]; rfl
theorem does_who (W : WOff m) (k : Int) : (Sg50.does (absOff m) (.who k)).1 = absOff m ∧ (Sg50.does (absOff m) (.who k)).2.v :: (Sg50.does (absOff m) (.who k)).2.l = mWho m k := by
  unfold Sg50.does mWho
  dsimp only
  simp only [len_papers, len_people, below_has]
  by_cases c : has m.papers.length k = false
  · rw [if_pos c, if_pos c]
    exact ⟨rfl, rfl⟩
  · rw [if_neg c, if_neg c, at_paper (nf c)]
    have X := W.pap (nf c)
    dsimp only
    have e : (List.range m.people.length).filter (fun p => ((absOff m).hinders (absPap (pap m k)) p p).isNone) = (List.range m.people.length).filter fun (p : Nat) => decide (refusal m (p : Int) (p : Int) (pap m k) = 0) := by
      refine List.filter_congr fun i hi => ?_
      have hi' := List.mem_range.mp hi
      have h := abs_hinders W X (b := (i : Int)) (f := (i : Int)) (by omega) (by omega) (by omega)
      rw [Int.toNat_natCast] at h
      rw [h, isNone_if]
    rw [e]
    refine ⟨rfl, ?_⟩
    unfold whoOf
    rw [List.filter_map, List.length_map]
    rfl
theorem does_waiting (W : WOff m) (p : Int) : (Sg50.does (absOff m) (.waiting p)).1 = absOff m ∧ (Sg50.does (absOff m) (.waiting p)).2.v :: (Sg50.does (absOff m) (.waiting p)).2.l = mWaiting m p := by
  unfold Sg50.does mWaiting
  dsimp only
  simp only [len_papers, len_people, below_has]
  by_cases c : has m.people.length p = false
  · rw [if_pos c, if_pos c]
    exact ⟨rfl, rfl⟩
  · rw [if_neg c, if_neg c]
    have P := has_iff.mp (nf c)
    dsimp only
    have e : ∀ g : Nat → Bool, (∀ i, i < m.papers.length → g i = decide (refusal m p p (pap m (i : Int)) = 0)) → (List.range m.papers.length).filter g = (List.range m.papers.length).filter fun (k : Nat) => decide (refusal m p p (pap m (k : Int)) = 0) :=
      fun g hg => List.filter_congr fun i hi => hg i (List.mem_range.mp hi)
    rw [e]
    case a =>
      intro i hi'
      have hk : has m.papers.length (i : Int) = true := has_iff.mpr ⟨by omega, by omega⟩
      have ea := at_paper hk
      rw [Int.toNat_natCast] at ea
      rw [ea]
      dsimp only
      rw [abs_hinders W (W.pap hk) P.1 P.1 P.2, isNone_if]
    refine ⟨rfl, ?_⟩
    unfold waitOf
    rw [List.filter_map, List.length_map]
    rfl
/-! a procedure -/
def stps : List Int → List Stp
  | r :: n :: d :: w :: b :: l => ⟨r, n, d, w, b⟩ :: stps l
  | _ => []
def okStp (s : Stp) (k : Int) : Bool := isRole s.role && (((decide (1 ≤ s.sig) && decide (s.sig ≤ 3)) && (decide (1 ≤ s.days) && decide (s.days ≤ 30))) && ((decide (0 ≤ s.own) && decide (s.own ≤ 1)) && (decide (-1 ≤ s.back) && decide (s.back ≤ k))))
def okFrom : Int → List Stp → Bool
  | _, [] => true
  | k, s :: l => okStp s k && okFrom (k + 1) l
def okLen (n : Nat) : Bool := decide ((n : Int) % 5 = 0) && (decide (1 ≤ (n : Int) / 5) && decide ((n : Int) / 5 ≤ 16))
def mProcedure (m : Off) (l : List Int) : Off × Int :=
  if okLen l.length = false then (m, -2)
  else if okFrom 0 (stps l) = false then (m, -2)
  else if (m.procs.length : Int) = 16 then (m, -8)
  else ({ m with procs := m.procs ++ [stps l] }, m.procs.length)
theorem stps_len : ∀ l : List Int, (stps l).length = l.length / 5
  | r :: n :: d :: w :: b :: l => by
    show (stps l).length + 1 = (l.length + 1 + 1 + 1 + 1 + 1) / 5
    rw [stps_len l]
    omega
  | [] => rfl
  | [_] => by simp [stps]
  | [_, _] => by simp [stps]
  | [_, _, _] => by simp [stps]
  | [_, _, _, _] => by simp [stps]
theorem okStp_iff {s : Stp} {k : Nat} : okStp s k = true ↔ (Sg50.below s.role Sg50.ROLES = true ∧ Sg50.within s.sig 1 3 = true ∧ Sg50.within s.days 1 30 = true ∧ Sg50.within s.own 0 1 = true ∧ Sg50.within s.back (-1) (k : Int) = true) := by
  simp only [below_role]
  unfold okStp Sg50.within
  simp only [Bool.and_eq_true, decide_eq_true_eq]
  constructor
  · rintro ⟨a, ⟨b, c⟩, d, e⟩; exact ⟨a, b, c, d, e⟩
  · rintro ⟨a, b, c, d, e⟩; exact ⟨a, ⟨b, c⟩, d, e⟩
theorem okStp_w {s : Stp} {k : Nat} (h : okStp s k = true) : WStp k s := by
  unfold okStp at h
  simp only [Bool.and_eq_true, decide_eq_true_eq, isRole_iff] at h
  obtain ⟨⟨a, b⟩, ⟨⟨c, d⟩, e, f⟩, ⟨g, i⟩, j, l⟩ := h
  exact ⟨a, b, c, d, e, f, g, i, j, l⟩
theorem okFrom_w : ∀ {l : List Stp} {k : Nat}, okFrom k l = true → ∀ (j : Nat) (s : Stp), l[j]? = some s → WStp (k + j) s
  | [], k, _, j, s, h => by simp at h
  | a :: r, k, h, 0, s, e => by
    have e' : a = s := Option.some.inj e
    subst e'
    exact okStp_w (Bool.and_eq_true_iff.mp h).1
  | a :: r, k, h, j + 1, s, e => by
    have h2 := (Bool.and_eq_true_iff.mp h).2
    have h3 : okFrom ((k + 1 : Nat) : Int) r = true := h2
    have := okFrom_w h3 j s e
    rw [show k + (j + 1) = k + 1 + j by omega]
    exact this
theorem stepsOf_eq : ∀ (l : List Int) (k : Nat), Sg50.stepsOf k l = if l.length % 5 = 0 ∧ okFrom k (stps l) = true then some ((stps l).map absStp) else none
  | r :: n :: d :: w :: b :: l, k => by
    show (if Sg50.below r Sg50.ROLES = true ∧ Sg50.within n 1 3 = true ∧ Sg50.within d 1 30 = true ∧ Sg50.within w 0 1 = true ∧ Sg50.within b (-1) (k : Int) = true then (Sg50.stepsOf (k + 1) l).map _ else none) = _
    rw [stepsOf_eq l (k + 1)]
    have e0 : (r :: n :: d :: w :: b :: l).length % 5 = l.length % 5 := by
      show (l.length + 1 + 1 + 1 + 1 + 1) % 5 = _
      omega
    rw [e0]
    have e1 : okFrom (k : Int) (stps (r :: n :: d :: w :: b :: l)) = (okStp ⟨r, n, d, w, b⟩ k && okFrom ((k + 1 : Nat) : Int) (stps l)) := rfl
    rw [e1]
    have e2 := okStp_iff (s := ⟨r, n, d, w, b⟩) (k := k)
    by_cases c : okStp ⟨r, n, d, w, b⟩ k = true
    · rw [if_pos (e2.mp c), c, Bool.true_and]
      by_cases c2 : l.length % 5 = 0 ∧ okFrom ((k + 1 : Nat) : Int) (stps l) = true
      · rw [if_pos c2, if_pos c2]
        rfl
      · rw [if_neg c2, if_neg c2]; rfl
    · rw [if_neg (fun q => c (e2.mpr q)), if_neg]
      intro q
      exact c (Bool.and_eq_true_iff.mp q.2).1
  | [], _ => rfl
  | [_], _ => rfl
  | [_, _], _ => rfl
  | [_, _, _], _ => rfl
  | [_, _, _, _], _ => rfl
theorem okLen_iff {n : Nat} : okLen n = true ↔ n % 5 = 0 ∧ 1 ≤ n / 5 ∧ n / 5 ≤ 16 := by
  unfold okLen
  simp only [Bool.and_eq_true, decide_eq_true_eq]
  omega
theorem does_procedure (W : WOff m) (l : List Int) : Sg50.does (absOff m) (.procedure l) = (absOff (mProcedure m l).1, Sg50.only (mProcedure m l).2) ∧ WOff (mProcedure m l).1 := by
  unfold Sg50.does mProcedure
  dsimp only
  rw [stepsOf_eq, len_procs]
  by_cases c : okLen l.length = false
  · rw [if_pos c]
    refine ⟨?_, W⟩
    by_cases c2 : l.length % 5 = 0 ∧ okFrom (0 : Nat) (stps l) = true
    · rw [if_pos c2]
      dsimp only
      have : (stps l).map absStp = [] ∨ Sg50.STEPS < ((stps l).map absStp).length := by
        have hc : ¬ okLen l.length = true := by rw [c]; simp
        rw [okLen_iff] at hc
        have hl : ((stps l).map absStp).length = l.length / 5 := by rw [List.length_map, stps_len]
        by_cases z : l.length / 5 = 0
        · left
          exact List.length_eq_zero_iff.mp (by omega)
        · right
          show 16 < _
          omega
      rw [if_pos this]
      rfl
    · rw [if_neg c2]
      rfl
  · rw [if_neg c]
    have hc := okLen_iff.mp (nf c)
    by_cases c2 : okFrom 0 (stps l) = false
    · rw [if_pos c2, if_neg (fun q => by have q2 : okFrom 0 (stps l) = true := q.2; rw [c2] at q2; cases q2)]
      exact ⟨rfl, W⟩
    · have c2' : okFrom (0 : Nat) (stps l) = true := nf c2
      rw [if_neg c2, if_pos ⟨hc.1, c2'⟩]
      dsimp only
      have hl : ((stps l).map absStp).length = l.length / 5 := by rw [List.length_map, stps_len]
      have h1 : ¬ ((stps l).map absStp = [] ∨ Sg50.STEPS < ((stps l).map absStp).length) := by
        intro q
        rcases q with q | q
        · rw [q] at hl
          have : ([] : List Sg50.Step).length = 0 := rfl
          omega
        · have q' : 16 < ((stps l).map absStp).length := q
          omega
      rw [if_neg h1]
      have hk := W.k
      by_cases c3 : (m.procs.length : Int) = 16
      · rw [if_pos (by show 16 ≤ _; omega), if_pos c3]
        exact ⟨rfl, W⟩
      · rw [if_neg (by show ¬ 16 ≤ _; omega), if_neg c3]
        refine ⟨?_, W.n, W.per, W.ap, ?_, fun z hz => ?_, W.j, fun x hx => ?_, W.td⟩
        · unfold absOff
          dsimp only
          rw [List.map_append]
          rfl
        · show (m.procs ++ [_]).length ≤ 16
          rw [List.length_append]
          show m.procs.length + 1 ≤ 16
          omega
        · rcases List.mem_append.mp hz with q | q
          · exact W.pr z q
          · rw [List.mem_singleton.mp q, stps_len]
            refine ⟨by omega, by omega, fun j s hs => ?_⟩
            have := okFrom_w c2' j s hs
            rw [Nat.zero_add] at this
            exact this
        · have X := W.pa x hx
          have hp : x.proc.toNat < m.procs.length := by have := X.p0; have := X.p1; omega
          have e : (m.procs ++ [stps l]).getD x.proc.toNat [] = m.procs.getD x.proc.toNat [] := by
            rw [List.getD_eq_getElem?_getD, List.getD_eq_getElem?_getD, List.getElem?_append_left hp]
          obtain ⟨a1, a2, a3, a4, a5, a6, a7, a8, a9, b1, b2, b3, b4, b5, b6⟩ := X
          exact ⟨a1, a2, a3, (by show x.proc < ((m.procs ++ [_]).length : Int); rw [List.length_append]; omega), a5, a6, a7, by dsimp only; rw [e]; exact a8, a9, b1, b2, b3, by dsimp only; rw [e]; exact b4, b5, by dsimp only; rw [e]; exact b6⟩
end
end Po
namespace Po
/-! ### a list of calls -/
def one (x : Off × Int) : Off × List Int := (x.1, [x.2])
/-- what the day of nobody's acting is left as -/
def backTill (m : Off) (p : Int) : Int := (per m p).till
def mAns (m : Off) (p : Int) (g : List Int) : Off × List Int :=
  if p = 1 then one (mPerson m (g.getD 0 0) (g.getD 1 0))
  else if p = 2 then one (mRoles m (g.getD 0 0) (g.getD 1 0))
  else if p = 3 then one (mApart m (g.getD 0 0) (g.getD 1 0))
  else if p = 4 then one (mProcedure m g)
  else if p = 5 then one (mFile m (g.getD 0 0) (g.getD 1 0))
  else if p = 6 then one (mSign m (g.getD 0 0) (g.getD 1 0) (g.getD 2 0))
  else if p = 7 then one (mRefuse m (g.getD 0 0) (g.getD 1 0) (g.getD 2 0))
  else if p = 8 then (m, [tryAct m (g.getD 0 0) (g.getD 1 0) (g.getD 2 0)])
  else if p = 9 then one (mWithdraw m (g.getD 0 0) (g.getD 1 0))
  else if p = 10 then one (mAway m (g.getD 0 0) (g.getD 1 0) (g.getD 2 0))
  else if p = 11 then one (mBack m (g.getD 0 0) (backTill m (g.getD 0 0)))
  else if p = 12 then one (mDays m (g.getD 0 0))
  else if p = 13 then (m, mTell m (g.getD 0 0))
  else if p = 14 then (m, mActs m (g.getD 0 0))
  else if p = 15 then (m, mWho m (g.getD 0 0))
  else (m, mWaiting m (g.getD 0 0))
/-- a call as the document's calls have it -/
def wc (p : Int) (g : List Int) : List (List Int) := if p = 4 then [[4], g] else [p :: g]
/-- how many numbers a call has (4: told by itself) -/
def argc (p : Int) : Option Nat := if p = 4 then none else (PySg50.shape p).map (·.1)
theorem step_one {m m' : Off} {c : Sg50.Call} {v : Int} {x : List (List Int)} (hx : Sg50Neutral.callOf x = some c) (h : Sg50.does (absOff m) c = (absOff m', Sg50.only v)) : Sg50Neutral.step (absOff m) x = (absOff m', [v]) := by
  unfold Sg50Neutral.step
  rw [hx]
  dsimp only
  rw [h]
  rfl
theorem step_more {m : Off} {c : Sg50.Call} {l : List Int} {x : List (List Int)} (hx : Sg50Neutral.callOf x = some c) (h : (Sg50.does (absOff m) c).1 = absOff m ∧ (Sg50.does (absOff m) c).2.v :: (Sg50.does (absOff m) c).2.l = l) : Sg50Neutral.step (absOff m) x = (absOff m, l) := by
  unfold Sg50Neutral.step
  rw [hx]
  dsimp only
  rw [h.1, h.2]
theorem shape_cases {p : Int} {n k : Nat} (h : PySg50.shape p = some (n, k)) : (p = 1 ∧ n = 2 ∧ k = 0) ∨ (p = 2 ∧ n = 2 ∧ k = 0) ∨ (p = 3 ∧ n = 2 ∧ k = 0) ∨ (p = 4 ∧ n = 0 ∧ k = 1) ∨ (p = 5 ∧ n = 2 ∧ k = 0) ∨ (p = 6 ∧ n = 3 ∧ k = 0) ∨ (p = 7 ∧ n = 3 ∧ k = 0) ∨ (p = 8 ∧ n = 3 ∧ k = 0) ∨ (p = 9 ∧ n = 2 ∧ k = 0) ∨ (p = 10 ∧ n = 3 ∧ k = 0) ∨ (p = 11 ∧ n = 1 ∧ k = 0) ∨ (p = 12 ∧ n = 1 ∧ k = 0) ∨ (p = 13 ∧ n = 1 ∧ k = 0) ∨ (p = 14 ∧ n = 1 ∧ k = 0) ∨ (p = 15 ∧ n = 1 ∧ k = 0) ∨ (p = 16 ∧ n = 1 ∧ k = 0) := by
  unfold PySg50.shape at h
  by_cases e1 : p = 1
  · rw [if_pos e1] at h
    have h' := Option.some.inj h
    have h1 : 2 = n := congrArg Prod.fst h'
    have h2 : 0 = k := congrArg Prod.snd h'
    exact Or.inl ⟨e1, h1.symm, h2.symm⟩
  rw [if_neg e1] at h
  by_cases e2 : p = 2
  · rw [if_pos e2] at h
    have h' := Option.some.inj h
    have h1 : 2 = n := congrArg Prod.fst h'
    have h2 : 0 = k := congrArg Prod.snd h'
    exact Or.inr (Or.inl ⟨e2, h1.symm, h2.symm⟩)
  rw [if_neg e2] at h
  by_cases e3 : p = 3
  · rw [if_pos e3] at h
    have h' := Option.some.inj h
    have h1 : 2 = n := congrArg Prod.fst h'
    have h2 : 0 = k := congrArg Prod.snd h'
    exact Or.inr (Or.inr (Or.inl ⟨e3, h1.symm, h2.symm⟩))
  rw [if_neg e3] at h
  by_cases e4 : p = 4
  · rw [if_pos e4] at h
    have h' := Option.some.inj h
    have h1 : 0 = n := congrArg Prod.fst h'
    have h2 : 1 = k := congrArg Prod.snd h'
    exact Or.inr (Or.inr (Or.inr (Or.inl ⟨e4, h1.symm, h2.symm⟩)))
  rw [if_neg e4] at h
  by_cases e5 : p = 5
  · rw [if_pos e5] at h
    have h' := Option.some.inj h
    have h1 : 2 = n := congrArg Prod.fst h'
    have h2 : 0 = k := congrArg Prod.snd h'
    exact Or.inr (Or.inr (Or.inr (Or.inr (Or.inl ⟨e5, h1.symm, h2.symm⟩))))
  rw [if_neg e5] at h
  by_cases e6 : p = 6
  · rw [if_pos e6] at h
    have h' := Option.some.inj h
    have h1 : 3 = n := congrArg Prod.fst h'
    have h2 : 0 = k := congrArg Prod.snd h'
    exact Or.inr (Or.inr (Or.inr (Or.inr (Or.inr (Or.inl ⟨e6, h1.symm, h2.symm⟩)))))
  rw [if_neg e6] at h
  by_cases e7 : p = 7
  · rw [if_pos e7] at h
    have h' := Option.some.inj h
    have h1 : 3 = n := congrArg Prod.fst h'
    have h2 : 0 = k := congrArg Prod.snd h'
    exact Or.inr (Or.inr (Or.inr (Or.inr (Or.inr (Or.inr (Or.inl ⟨e7, h1.symm, h2.symm⟩))))))
  rw [if_neg e7] at h
  by_cases e8 : p = 8
  · rw [if_pos e8] at h
    have h' := Option.some.inj h
    have h1 : 3 = n := congrArg Prod.fst h'
    have h2 : 0 = k := congrArg Prod.snd h'
    exact Or.inr (Or.inr (Or.inr (Or.inr (Or.inr (Or.inr (Or.inr (Or.inl ⟨e8, h1.symm, h2.symm⟩)))))))
  rw [if_neg e8] at h
  by_cases e9 : p = 9
  · rw [if_pos e9] at h
    have h' := Option.some.inj h
    have h1 : 2 = n := congrArg Prod.fst h'
    have h2 : 0 = k := congrArg Prod.snd h'
    exact Or.inr (Or.inr (Or.inr (Or.inr (Or.inr (Or.inr (Or.inr (Or.inr (Or.inl ⟨e9, h1.symm, h2.symm⟩))))))))
  rw [if_neg e9] at h
  by_cases e10 : p = 10
  · rw [if_pos e10] at h
    have h' := Option.some.inj h
    have h1 : 3 = n := congrArg Prod.fst h'
    have h2 : 0 = k := congrArg Prod.snd h'
    exact Or.inr (Or.inr (Or.inr (Or.inr (Or.inr (Or.inr (Or.inr (Or.inr (Or.inr (Or.inl ⟨e10, h1.symm, h2.symm⟩)))))))))
  rw [if_neg e10] at h
  by_cases e11 : p = 11
  · rw [if_pos e11] at h
    have h' := Option.some.inj h
    have h1 : 1 = n := congrArg Prod.fst h'
    have h2 : 0 = k := congrArg Prod.snd h'
    exact Or.inr (Or.inr (Or.inr (Or.inr (Or.inr (Or.inr (Or.inr (Or.inr (Or.inr (Or.inr (Or.inl ⟨e11, h1.symm, h2.symm⟩))))))))))
  rw [if_neg e11] at h
  by_cases e12 : p = 12
  · rw [if_pos e12] at h
    have h' := Option.some.inj h
    have h1 : 1 = n := congrArg Prod.fst h'
    have h2 : 0 = k := congrArg Prod.snd h'
    exact Or.inr (Or.inr (Or.inr (Or.inr (Or.inr (Or.inr (Or.inr (Or.inr (Or.inr (Or.inr (Or.inr (Or.inl ⟨e12, h1.symm, h2.symm⟩)))))))))))
  rw [if_neg e12] at h
  by_cases e13 : p = 13
  · rw [if_pos e13] at h
    have h' := Option.some.inj h
    have h1 : 1 = n := congrArg Prod.fst h'
    have h2 : 0 = k := congrArg Prod.snd h'
    exact Or.inr (Or.inr (Or.inr (Or.inr (Or.inr (Or.inr (Or.inr (Or.inr (Or.inr (Or.inr (Or.inr (Or.inr (Or.inl ⟨e13, h1.symm, h2.symm⟩))))))))))))
  rw [if_neg e13] at h
  by_cases e14 : p = 14
  · rw [if_pos e14] at h
    have h' := Option.some.inj h
    have h1 : 1 = n := congrArg Prod.fst h'
    have h2 : 0 = k := congrArg Prod.snd h'
    exact Or.inr (Or.inr (Or.inr (Or.inr (Or.inr (Or.inr (Or.inr (Or.inr (Or.inr (Or.inr (Or.inr (Or.inr (Or.inr (Or.inl ⟨e14, h1.symm, h2.symm⟩)))))))))))))
  rw [if_neg e14] at h
  by_cases e15 : p = 15
  · rw [if_pos e15] at h
    have h' := Option.some.inj h
    have h1 : 1 = n := congrArg Prod.fst h'
    have h2 : 0 = k := congrArg Prod.snd h'
    exact Or.inr (Or.inr (Or.inr (Or.inr (Or.inr (Or.inr (Or.inr (Or.inr (Or.inr (Or.inr (Or.inr (Or.inr (Or.inr (Or.inr (Or.inl ⟨e15, h1.symm, h2.symm⟩))))))))))))))
  rw [if_neg e15] at h
  by_cases e16 : p = 16
  · rw [if_pos e16] at h
    have h' := Option.some.inj h
    have h1 : 1 = n := congrArg Prod.fst h'
    have h2 : 0 = k := congrArg Prod.snd h'
    exact Or.inr (Or.inr (Or.inr (Or.inr (Or.inr (Or.inr (Or.inr (Or.inr (Or.inr (Or.inr (Or.inr (Or.inr (Or.inr (Or.inr (Or.inr (⟨e16, h1.symm, h2.symm⟩)))))))))))))))
  rw [if_neg e16] at h
  cases h
theorem argc_cases {p : Int} {n : Nat} (h : argc p = some n) :
    (p = 1 ∧ n = 2) ∨ (p = 2 ∧ n = 2) ∨ (p = 3 ∧ n = 2) ∨ (p = 5 ∧ n = 2) ∨ (p = 6 ∧ n = 3) ∨ (p = 7 ∧ n = 3) ∨ (p = 8 ∧ n = 3) ∨ (p = 9 ∧ n = 2) ∨ (p = 10 ∧ n = 3) ∨ (p = 11 ∧ n = 1) ∨ (p = 12 ∧ n = 1) ∨ (p = 13 ∧ n = 1) ∨ (p = 14 ∧ n = 1) ∨ (p = 15 ∧ n = 1) ∨ (p = 16 ∧ n = 1) := by
  unfold argc at h
  by_cases e4 : p = 4
  · rw [if_pos e4] at h; cases h
  rw [if_neg e4] at h
  cases e : PySg50.shape p with
  | none => rw [e] at h; cases h
  | some x =>
    obtain ⟨a, b⟩ := x
    rw [e] at h
    have h' : a = n := Option.some.inj h
    rcases shape_cases e with ⟨e1, h1, _⟩ | ⟨e1, h1, _⟩ | ⟨e1, h1, _⟩ | ⟨e1, h1, _⟩ | ⟨e1, h1, _⟩ | ⟨e1, h1, _⟩ | ⟨e1, h1, _⟩ | ⟨e1, h1, _⟩ | ⟨e1, h1, _⟩ | ⟨e1, h1, _⟩ | ⟨e1, h1, _⟩ | ⟨e1, h1, _⟩ | ⟨e1, h1, _⟩ | ⟨e1, h1, _⟩ | ⟨e1, h1, _⟩ | ⟨e1, h1, _⟩
    · exact Or.inl ⟨e1, h'.symm.trans h1⟩
    · exact Or.inr (Or.inl ⟨e1, h'.symm.trans h1⟩)
    · exact Or.inr (Or.inr (Or.inl ⟨e1, h'.symm.trans h1⟩))
    · exact absurd e1 e4
    · exact Or.inr (Or.inr (Or.inr (Or.inl ⟨e1, h'.symm.trans h1⟩)))
    · exact Or.inr (Or.inr (Or.inr (Or.inr (Or.inl ⟨e1, h'.symm.trans h1⟩))))
    · exact Or.inr (Or.inr (Or.inr (Or.inr (Or.inr (Or.inl ⟨e1, h'.symm.trans h1⟩)))))
    · exact Or.inr (Or.inr (Or.inr (Or.inr (Or.inr (Or.inr (Or.inl ⟨e1, h'.symm.trans h1⟩))))))
    · exact Or.inr (Or.inr (Or.inr (Or.inr (Or.inr (Or.inr (Or.inr (Or.inl ⟨e1, h'.symm.trans h1⟩)))))))
    · exact Or.inr (Or.inr (Or.inr (Or.inr (Or.inr (Or.inr (Or.inr (Or.inr (Or.inl ⟨e1, h'.symm.trans h1⟩))))))))
    · exact Or.inr (Or.inr (Or.inr (Or.inr (Or.inr (Or.inr (Or.inr (Or.inr (Or.inr (Or.inl ⟨e1, h'.symm.trans h1⟩)))))))))
    · exact Or.inr (Or.inr (Or.inr (Or.inr (Or.inr (Or.inr (Or.inr (Or.inr (Or.inr (Or.inr (Or.inl ⟨e1, h'.symm.trans h1⟩))))))))))
    · exact Or.inr (Or.inr (Or.inr (Or.inr (Or.inr (Or.inr (Or.inr (Or.inr (Or.inr (Or.inr (Or.inr (Or.inl ⟨e1, h'.symm.trans h1⟩)))))))))))
    · exact Or.inr (Or.inr (Or.inr (Or.inr (Or.inr (Or.inr (Or.inr (Or.inr (Or.inr (Or.inr (Or.inr (Or.inr (Or.inl ⟨e1, h'.symm.trans h1⟩))))))))))))
    · exact Or.inr (Or.inr (Or.inr (Or.inr (Or.inr (Or.inr (Or.inr (Or.inr (Or.inr (Or.inr (Or.inr (Or.inr (Or.inr (Or.inl ⟨e1, h'.symm.trans h1⟩)))))))))))))
    · exact Or.inr (Or.inr (Or.inr (Or.inr (Or.inr (Or.inr (Or.inr (Or.inr (Or.inr (Or.inr (Or.inr (Or.inr (Or.inr (Or.inr (⟨e1, h'.symm.trans h1⟩))))))))))))))
theorem len1 {g : List Int} (h : g.length = 1) : ∃ a, g = [a] := by
  match g, h with
  | [a], _ => exact ⟨a, rfl⟩
theorem len2 {g : List Int} (h : g.length = 2) : ∃ a b, g = [a, b] := by
  match g, h with
  | [a, b], _ => exact ⟨a, b, rfl⟩
theorem len3 {g : List Int} (h : g.length = 3) : ∃ a b c, g = [a, b, c] := by
  match g, h with
  | [a, b, c], _ => exact ⟨a, b, c, rfl⟩
theorem step_ans {m : Off} (W : WOff m) {p : Int} {g : List Int} (h : p = 4 ∨ argc p = some g.length) :
    Sg50Neutral.step (absOff m) (PySg50.whole (wc p g)) = (absOff (mAns m p g).1, (mAns m p g).2) ∧ WOff (mAns m p g).1 := by
  rcases h with rfl | h
  · exact ⟨step_one (c := .procedure g) rfl (does_procedure W g).1, (does_procedure W g).2⟩
  · rcases argc_cases h with ⟨rfl, hl⟩ | ⟨rfl, hl⟩ | ⟨rfl, hl⟩ | ⟨rfl, hl⟩ | ⟨rfl, hl⟩ | ⟨rfl, hl⟩ | ⟨rfl, hl⟩ | ⟨rfl, hl⟩ | ⟨rfl, hl⟩ | ⟨rfl, hl⟩ | ⟨rfl, hl⟩ | ⟨rfl, hl⟩ | ⟨rfl, hl⟩ | ⟨rfl, hl⟩ | ⟨rfl, hl⟩
    · obtain ⟨a, b, rfl⟩ := len2 hl
      exact ⟨step_one (c := .person a b) rfl (does_person W a b).1, (does_person W a b).2⟩
    · obtain ⟨a, b, rfl⟩ := len2 hl
      exact ⟨step_one (c := .roles a b) rfl (does_roles W a b).1, (does_roles W a b).2⟩
    · obtain ⟨a, b, rfl⟩ := len2 hl
      exact ⟨step_one (c := .apart a b) rfl (does_apart W a b).1, (does_apart W a b).2⟩
    · obtain ⟨a, b, rfl⟩ := len2 hl
      exact ⟨step_one (c := .file a b) rfl (does_file W a b).1, (does_file W a b).2⟩
    · obtain ⟨a, b, c, rfl⟩ := len3 hl
      exact ⟨step_one (c := .sign a b c) rfl (does_sign W a b c).1, (does_sign W a b c).2⟩
    · obtain ⟨a, b, c, rfl⟩ := len3 hl
      exact ⟨step_one (c := .refuse a b c) rfl (does_refuse W a b c).1, (does_refuse W a b c).2⟩
    · obtain ⟨a, b, c, rfl⟩ := len3 hl
      exact ⟨step_one (c := .may a b c) rfl (does_may W a b c), W⟩
    · obtain ⟨a, b, rfl⟩ := len2 hl
      exact ⟨step_one (c := .withdraw a b) rfl (does_withdraw W a b).1, (does_withdraw W a b).2⟩
    · obtain ⟨a, b, c, rfl⟩ := len3 hl
      exact ⟨step_one (c := .away a b c) rfl (does_away W a b c).1, (does_away W a b c).2⟩
    · obtain ⟨a, rfl⟩ := len1 hl
      exact ⟨step_one (c := .back a) rfl (does_back W a _).1, (does_back W a _).2⟩
    · obtain ⟨a, rfl⟩ := len1 hl
      exact ⟨step_one (c := .days a) rfl (does_days W a).1, (does_days W a).2⟩
    · obtain ⟨a, rfl⟩ := len1 hl
      exact ⟨step_more (c := .tell a) rfl (does_tell W a), W⟩
    · obtain ⟨a, rfl⟩ := len1 hl
      exact ⟨step_more (c := .acts a) rfl (does_acts W a), W⟩
    · obtain ⟨a, rfl⟩ := len1 hl
      exact ⟨step_more (c := .who a) rfl (does_who W a), W⟩
    · obtain ⟨a, rfl⟩ := len1 hl
      exact ⟨step_more (c := .waiting a) rfl (does_waiting W a), W⟩
/-- the next call of a list of calls -/
structure Next (ns : List Int) (at_ : Nat) (p : Int) (g : List Int) (en : Nat) : Prop where
  pp : ns[at_]? = some p
  lt : at_ < en
  le : en ≤ ns.length
  how : (p = 4 ∧ ∃ k : Int, ns[at_ + 1]? = some k ∧ 0 ≤ k ∧ (en : Int) = at_ + 2 + k ∧ g = (ns.drop (at_ + 2)).take k.toNat ∧ g.length = k.toNat) ∨ (argc p = some g.length ∧ en = at_ + 1 + g.length ∧ g = (ns.drop (at_ + 1)).take g.length)
theorem Next.call {ns : List Int} {at_ : Nat} {p : Int} {g : List Int} {en : Nat} (h : Next ns at_ p g en) : p = 4 ∨ argc p = some g.length := h.how.imp (fun q => q.1) fun q => q.1
theorem shape4 {p : Int} {n k : Nat} (h : PySg50.shape p = some (n, k)) : (p = 4 ∧ n = 0 ∧ k = 1) ∨ (k = 0 ∧ argc p = some n) := by
  by_cases e : p = 4
  · subst e
    have h' : (some (0, 1) : Option (Nat × Nat)) = some (n, k) := h
    cases h'
    exact Or.inl ⟨rfl, rfl, rfl⟩
  · refine Or.inr ⟨?_, ?_⟩
    · rcases shape_cases h with ⟨e1, _, h2⟩ | ⟨e1, _, h2⟩ | ⟨e1, _, h2⟩ | ⟨e1, _, h2⟩ | ⟨e1, _, h2⟩ | ⟨e1, _, h2⟩ | ⟨e1, _, h2⟩ | ⟨e1, _, h2⟩ | ⟨e1, _, h2⟩ | ⟨e1, _, h2⟩ | ⟨e1, _, h2⟩ | ⟨e1, _, h2⟩ | ⟨e1, _, h2⟩ | ⟨e1, _, h2⟩ | ⟨e1, _, h2⟩ | ⟨e1, _, h2⟩
      · exact h2
      · exact h2
      · exact h2
      · exact absurd e1 e
      · exact h2
      · exact h2
      · exact h2
      · exact h2
      · exact h2
      · exact h2
      · exact h2
      · exact h2
      · exact h2
      · exact h2
      · exact h2
      · exact h2
    · unfold argc
      rw [if_neg e, h]
      rfl
theorem next_of {ns : List Int} {at_ f : Nat} {cs : List (List (List Int))} (h : PyFlat.calls PySg50.shape f (ns.drop at_) = some cs) (hlt : at_ < ns.length) :
    ∃ p g en cs', Next ns at_ p g en ∧ cs = wc p g :: cs' ∧ PyFlat.calls PySg50.shape (f - 1) (ns.drop en) = some cs' := by
  rw [List.drop_eq_getElem_cons hlt] at h
  cases f with
  | zero => cases h
  | succ f =>
    have h1 : (match PyFlat.call PySg50.shape (ns[at_] :: ns.drop (at_ + 1)) with
      | none => none
      | some (c, t) => match PyFlat.calls PySg50.shape f t with
        | none => none
        | some cs => some (c :: cs)) = some cs := h
    cases e1 : PyFlat.call PySg50.shape (ns[at_] :: ns.drop (at_ + 1)) with
    | none => rw [e1] at h1; cases h1
    | some ct =>
      obtain ⟨c, t⟩ := ct
      rw [e1] at h1
      dsimp only at h1
      cases e2 : PyFlat.calls PySg50.shape f t with
      | none => rw [e2] at h1; cases h1
      | some cs' =>
        rw [e2] at h1
        have h2 : c :: cs' = cs := Option.some.inj h1
        unfold PyFlat.call at e1
        dsimp only at e1
        cases e3 : PySg50.shape ns[at_] with
        | none => rw [e3] at e1; cases e1
        | some nk =>
          obtain ⟨n, k⟩ := nk
          rw [e3] at e1
          dsimp only at e1
          by_cases hl : (ns.drop (at_ + 1)).length < n
          · rw [if_pos hl] at e1; cases e1
          · rw [if_neg hl] at e1
            have hp : ns[at_]? = some ns[at_] := List.getElem?_eq_getElem hlt
            rcases shape4 e3 with ⟨e4, rfl, rfl⟩ | ⟨rfl, ha⟩
            · rw [List.drop_zero] at e1
              unfold PyFlat.rows at e1
              cases e5 : PyFlat.row (ns.drop (at_ + 1)) with
              | none => rw [e5] at e1; cases e1
              | some xs =>
                obtain ⟨x, s⟩ := xs
                rw [e5] at e1
                have e6 : (([ns[at_]] : List Int) :: [x], s) = (c, t) := Option.some.inj e1
                by_cases hl2 : at_ + 1 < ns.length
                · rw [List.drop_eq_getElem_cons hl2] at e5
                  unfold PyFlat.row at e5
                  dsimp only at e5
                  by_cases hk : 0 ≤ ns[at_ + 1] ∧ ns[at_ + 1].toNat ≤ (ns.drop (at_ + 1 + 1)).length
                  · rw [if_pos hk] at e5
                    have e7 := Option.some.inj e5
                    have ex : (ns.drop (at_ + 2)).take ns[at_ + 1].toNat = x := congrArg Prod.fst e7
                    have es : (ns.drop (at_ + 2)).drop ns[at_ + 1].toNat = s := congrArg Prod.snd e7
                    have hk2 : ns[at_ + 1].toNat ≤ ns.length - (at_ + 2) := by have := hk.2; rw [List.length_drop] at this; exact this
                    have elx : x.length = ns[at_ + 1].toNat := by rw [← ex, List.length_take, List.length_drop]; omega
                    have ec : [[ns[at_]], x] = c := congrArg Prod.fst e6
                    have et : s = t := congrArg Prod.snd e6
                    refine ⟨ns[at_], x, at_ + 2 + ns[at_ + 1].toNat, cs', ⟨hp, by omega, by omega, Or.inl ⟨e4, ns[at_ + 1], List.getElem?_eq_getElem hl2, hk.1, by omega, ex.symm, elx⟩⟩, ?_, ?_⟩
                    · rw [← h2, ← ec]
                      unfold wc
                      rw [if_pos e4, e4]
                    · show PyFlat.calls PySg50.shape f (ns.drop (at_ + 2 + _)) = some cs'
                      rw [← List.drop_drop, es, et]
                      exact e2
                  · rw [if_neg hk] at e5; cases e5
                · rw [List.drop_eq_nil_of_le (by omega)] at e5
                  cases e5
            · have e6 : ((ns[at_] :: (ns.drop (at_ + 1)).take n) :: [], (ns.drop (at_ + 1)).drop n) = (c, t) := Option.some.inj e1
              have hn : n ≤ ns.length - (at_ + 1) := by rw [List.length_drop] at hl; omega
              have el : ((ns.drop (at_ + 1)).take n).length = n := by rw [List.length_take, List.length_drop]; omega
              have ec : [ns[at_] :: (ns.drop (at_ + 1)).take n] = c := congrArg Prod.fst e6
              have et : (ns.drop (at_ + 1)).drop n = t := congrArg Prod.snd e6
              refine ⟨ns[at_], (ns.drop (at_ + 1)).take n, at_ + 1 + n, cs', ⟨hp, by omega, by omega, Or.inr ⟨by rw [el]; exact ha, by rw [el], by rw [el]⟩⟩, ?_, ?_⟩
              · rw [← h2, ← ec]
                unfold wc
                rw [if_neg]
                intro q
                rw [q] at ha
                cases ha
              · show PyFlat.calls PySg50.shape f (ns.drop (at_ + 1 + n)) = some cs'
                rw [← List.drop_drop, et]
                exact e2
theorem calls_end {f : Nat} {ns : List Int} {at_ : Nat} {cs : List (List (List Int))} (h : PyFlat.calls PySg50.shape f (ns.drop at_) = some cs) (hge : ns.length ≤ at_) : cs = [] := by
  rw [List.drop_eq_nil_of_le hge] at h
  cases f <;> exact (Option.some.inj h).symm
/-! how long things grow -/
def AB (m : Off) (n : Nat) : Prop := ∀ x ∈ m.papers, x.acts.length ≤ n
theorem AB.mono {m : Off} {n k : Nat} (h : AB m n) (hk : n ≤ k) : AB m k := fun x hx => Nat.le_trans (h x hx) hk
theorem AB.put {m : Off} {n : Nat} (h : AB m n) {k : Int} {y : Pap} (hy : y.acts.length ≤ n) : AB (Po.put m k y) n := fun x hx => (mem_set hx).elim (h x) fun e => by rw [e]; exact hy
theorem goOn_acts (m : Off) (x : Pap) : (goOn m x).acts = x.acts := by
  unfold goOn
  split <;> rfl
theorem goBack_acts (m : Off) (x : Pap) : (goBack m x).acts = x.acts := by
  unfold goBack
  split <;> rfl
theorem signing_acts (m : Off) (x : Pap) (b f : Int) : (signing m x b f).acts.length = x.acts.length + 1 := by
  unfold signing
  split
  · rw [goOn_acts]
    show (x.acts ++ [_]).length = _
    rw [List.length_append]; rfl
  · show (x.acts ++ [_]).length = _
    rw [List.length_append]; rfl
theorem refusing_acts (m : Off) (x : Pap) (b f : Int) : (refusing m x b f).acts.length = x.acts.length + 1 := by
  unfold refusing
  rw [goBack_acts]
  show (x.acts ++ [_]).length = _
  rw [List.length_append]; rfl
theorem late_acts (m : Off) (x : Pap) : (late m x).acts = x.acts := by
  unfold late
  split
  · rfl
  · split <;> rfl
theorem AB.pap {m : Off} {n : Nat} (h : AB m n) (k : Int) : (pap m k).acts.length ≤ n := by
  unfold Po.pap
  rw [List.getD_eq_getElem?_getD]
  cases e : m.papers[k.toNat]? with
  | none => exact Nat.zero_le _
  | some x => exact h x (List.mem_of_getElem? e)
theorem AB.days : ∀ (k : Nat) {m : Off} {n : Nat}, AB m n → AB (days m k) n
  | 0, _, _, h => h
  | k + 1, m, n, h => AB.days k (m := day m) fun x hx => by
    obtain ⟨y, hy, rfl⟩ := List.mem_map.mp hx
    rw [late_acts]
    exact h y hy
theorem AB.ans {m : Off} {n : Nat} (h : AB m n) (p : Int) (g : List Int) : AB (mAns m p g).1 (n + 1) := by
  have h1 : AB m (n + 1) := h.mono (by omega)
  have hs : ∀ b f k, AB (Po.put m k (signing m (Po.pap m k) b f)) (n + 1) := fun b f k => h1.put (by rw [signing_acts]; have := h.pap k; omega)
  have hr : ∀ b f k, AB (Po.put m k (refusing m (Po.pap m k) b f)) (n + 1) := fun b f k => h1.put (by rw [refusing_acts]; have := h.pap k; omega)
  have iteA : ∀ {c : Prop} [Decidable c] {a b : Off × List Int}, AB b.1 (n + 1) → AB a.1 (n + 1) → AB (if c then a else b).1 (n + 1) := fun hb ha => by
    split
    · exact ha
    · exact hb
  have iteB : ∀ {c : Prop} [Decidable c] {a b : Off × Int}, AB b.1 (n + 1) → AB a.1 (n + 1) → AB (if c then a else b).1 (n + 1) := fun hb ha => by
    split
    · exact ha
    · exact hb
  unfold mAns
  refine iteA ?_ (iteB (iteB h1 h1) h1 : AB (mPerson m _ _).1 (n + 1))
  refine iteA ?_ (iteB h1 h1 : AB (mRoles m _ _).1 (n + 1))
  refine iteA ?_ (iteB (iteB h1 h1) h1 : AB (mApart m _ _).1 (n + 1))
  refine iteA ?_ (iteB (iteB (iteB h1 h1) h1) h1 : AB (mProcedure m _).1 (n + 1))
  refine iteA ?_ (iteB (iteB ?_ h1) h1 : AB (mFile m _ _).1 (n + 1))
  case refine_2 =>
    intro x hx
    rcases List.mem_append.mp hx with q | q
    · exact h1 x q
    · rw [List.mem_singleton.mp q]
      exact Nat.zero_le _
  refine iteA ?_ (iteB (hs _ _ _) h1 : AB (mSign m _ _ _).1 (n + 1))
  refine iteA ?_ (iteB (hr _ _ _) h1 : AB (mRefuse m _ _ _).1 (n + 1))
  refine iteA ?_ h1
  refine iteA ?_ (iteB (iteB (iteB (h1.put (y := { Po.pap m (g.getD 1 0) with state := 3 }) (h1.pap _)) h1) h1) h1 : AB (mWithdraw m _ _).1 (n + 1))
  refine iteA ?_ (iteB h1 h1 : AB (mAway m _ _ _).1 (n + 1))
  refine iteA ?_ (iteB h1 h1 : AB (mBack m _ _).1 (n + 1))
  refine iteA ?_ (iteB (AB.days _ h1) h1 : AB (mDays m _).1 (n + 1))
  refine iteA ?_ h1
  refine iteA ?_ h1
  exact iteA h1 h1
theorem AP.ans {m : Off} {n : Nat} (h : m.apart.length ≤ n) (p : Int) (g : List Int) : (mAns m p g).1.apart.length ≤ n + 1 := by
  have h1 : m.apart.length ≤ n + 1 := by omega
  have iteA : ∀ {c : Prop} [Decidable c] {a b : Off × List Int}, b.1.apart.length ≤ n + 1 → a.1.apart.length ≤ n + 1 → (if c then a else b).1.apart.length ≤ n + 1 := fun hb ha => by
    split
    · exact ha
    · exact hb
  have iteB : ∀ {c : Prop} [Decidable c] {a b : Off × Int}, b.1.apart.length ≤ n + 1 → a.1.apart.length ≤ n + 1 → (if c then a else b).1.apart.length ≤ n + 1 := fun hb ha => by
    split
    · exact ha
    · exact hb
  have hd : ∀ (k : Nat) (m : Off), (days m k).apart = m.apart := by
    intro k
    induction k with
    | zero => intro m; rfl
    | succ k ih => intro m; show (days (day m) k).apart = _; rw [ih]; rfl
  unfold mAns
  refine iteA ?_ (iteB (iteB h1 h1) h1 : (mPerson m _ _).1.apart.length ≤ n + 1)
  refine iteA ?_ (iteB h1 h1 : (mRoles m _ _).1.apart.length ≤ n + 1)
  refine iteA ?_ (iteB (iteB (by show (m.apart ++ [_]).length ≤ n + 1; rw [List.length_append]; show m.apart.length + 1 ≤ n + 1; omega) h1) h1 : (mApart m _ _).1.apart.length ≤ n + 1)
  refine iteA ?_ (iteB (iteB (iteB h1 h1) h1) h1 : (mProcedure m _).1.apart.length ≤ n + 1)
  refine iteA ?_ (iteB (iteB h1 h1) h1 : (mFile m _ _).1.apart.length ≤ n + 1)
  refine iteA ?_ (iteB h1 h1 : (mSign m _ _ _).1.apart.length ≤ n + 1)
  refine iteA ?_ (iteB h1 h1 : (mRefuse m _ _ _).1.apart.length ≤ n + 1)
  refine iteA ?_ h1
  refine iteA ?_ (iteB (iteB (iteB h1 h1) h1) h1 : (mWithdraw m _ _).1.apart.length ≤ n + 1)
  refine iteA ?_ (iteB h1 h1 : (mAway m _ _ _).1.apart.length ≤ n + 1)
  refine iteA ?_ (iteB h1 h1 : (mBack m _ _).1.apart.length ≤ n + 1)
  refine iteA ?_ (iteB (by show (days m _).apart.length ≤ n + 1; rw [hd]; exact h1) h1 : (mDays m _).1.apart.length ≤ n + 1)
  refine iteA ?_ h1
  refine iteA ?_ h1
  exact iteA h1 h1
theorem flat5 : ∀ l : List Ac, (l.flatMap fun a => [a.step, a.turn, a.by_, a.for_, a.signed]).length = 5 * l.length
  | [] => rfl
  | a :: r => by
    rw [List.flatMap_cons, List.length_append, flat5 r]
    show 5 + 5 * r.length = 5 * (r.length + 1)
    omega
theorem ite_ind {c : Prop} [Decidable c] {a b : Off × List Int} (hb : b.2.length ≤ 1800) (ha : a.2.length ≤ 1800) : (if c then a else b).2.length ≤ 1800 := by
  split
  · exact ha
  · exact hb
theorem len_ans {m : Off} {n : Nat} (W : WOff m) (h : AB m n) (hn : n ≤ 350) (p : Int) (g : List Int) : (mAns m p g).2.length ≤ 1800 := by
  have h1 : ∀ x : Off × Int, (one x).2.length ≤ 1800 := fun x => by show 1 ≤ 1800; decide
  have wn := W.n
  have wj := W.j
  have ht : ∀ k, (mTell m k).length ≤ 1800 := fun k => by
    unfold mTell
    split
    · show 1 ≤ 1800; decide
    · show 8 ≤ 1800; decide
  have ha : ∀ k, (mActs m k).length ≤ 1800 := fun k => by
    unfold mActs
    split
    · show 1 ≤ 1800; decide
    · unfold actsOf
      rw [List.length_cons, flat5]
      have := h.pap k
      omega
  have hw : ∀ k, (mWho m k).length ≤ 1800 := fun k => by
    unfold mWho
    split
    · show 1 ≤ 1800; decide
    · rw [List.length_cons]
      have : (whoOf m (Po.pap m k)).length ≤ m.people.length := by
        unfold whoOf
        refine Nat.le_trans (List.length_filter_le _ _) ?_
        rw [List.length_map, List.length_range]
        exact Nat.le_refl _
      omega
  have hx : ∀ k, (mWaiting m k).length ≤ 1800 := fun k => by
    unfold mWaiting
    split
    · show 1 ≤ 1800; decide
    · rw [List.length_cons]
      have : (waitOf m k).length ≤ m.papers.length := by
        unfold waitOf
        refine Nat.le_trans (List.length_filter_le _ _) ?_
        rw [List.length_map, List.length_range]
        exact Nat.le_refl _
      omega
  unfold mAns
  iterate 7 (refine ite_ind ?_ (h1 _))
  refine ite_ind ?_ (by show 1 ≤ 1800; decide)
  iterate 4 (refine ite_ind ?_ (h1 _))
  refine ite_ind ?_ (ht _)
  refine ite_ind ?_ (ha _)
  exact ite_ind (hx _) (hw _)
/-- between two calls: what's told so far, and what's still to be told; done: how many calls are behind -/
structure Mid (ns : List Int) (at_ : Nat) (m : Off) (told : List Int) (n : Nat) : Prop where
  W : WOff m
  le : at_ ≤ ns.length
  few : n ≤ 350
  ab : AB m n
  ap : m.apart.length ≤ n
  tl : told.length ≤ n * 1801
  rest : ∃ f cs, PyFlat.calls PySg50.shape f (ns.drop at_) = some cs ∧ n + cs.length ≤ 350 ∧ told ++ PyFlat.told (PyFlat.played Sg50Neutral.step (absOff m) (cs.map PySg50.whole)) = PySg50.answers ns
theorem Mid.start {ns : List Int} (h : PySg50.answers_asked ns = true) : Mid ns 0 m0 [] 0 := by
  unfold PySg50.answers_asked PySg50.calls at h
  cases e : PyFlat.calls PySg50.shape ns.length ns with
  | none => rw [e] at h; cases h
  | some cs =>
    rw [e] at h
    dsimp only at h
    have h1 := (Bool.and_eq_true_iff.mp h).1
    have h2 : (cs.map PySg50.whole).length ≤ 350 := of_decide_eq_true h1
    rw [List.length_map] at h2
    refine ⟨w0, Nat.zero_le _, by omega, fun _ hx => (by cases hx), Nat.zero_le _, Nat.zero_le _, ns.length, cs, e, by omega, ?_⟩
    unfold PySg50.answers PySg50.calls
    rw [e]
    rfl
theorem Mid.done {ns : List Int} {at_ : Nat} {m : Off} {told : List Int} {n : Nat} (M : Mid ns at_ m told n) (h : ns.length ≤ at_) : told = PySg50.answers ns := by
  obtain ⟨f, cs, hc, _, e⟩ := M.rest
  rw [calls_end hc h] at e
  have e' : told ++ [] = PySg50.answers ns := e
  rw [List.append_nil] at e'
  exact e'
theorem Mid.next {ns : List Int} {at_ : Nat} {m : Off} {told : List Int} {n : Nat} (M : Mid ns at_ m told n) (h : at_ < ns.length) :
    n < 350 ∧ ∃ p g en, Next ns at_ p g en ∧ Mid ns en (mAns m p g).1 (told ++ (((mAns m p g).2.length : Int) :: (mAns m p g).2)) (n + 1) := by
  obtain ⟨f, cs, hc, hn, e⟩ := M.rest
  obtain ⟨p, g, en, cs', N, rfl, hc'⟩ := next_of hc h
  rw [List.length_cons] at hn
  refine ⟨by omega, p, g, en, N, ?_⟩
  obtain ⟨e1, W'⟩ := step_ans M.W N.call
  refine ⟨W', N.le, by omega, M.ab.ans p g, AP.ans M.ap p g, ?_, f - 1, cs', hc', by omega, ?_⟩
  · rw [List.length_append, List.length_cons]
    have := len_ans M.W M.ab M.few p g
    have := M.tl
    omega
  rw [← e, List.map_cons]
  show _ = told ++ PyFlat.told ((Sg50Neutral.step (absOff m) (PySg50.whole (wc p g))).2 :: PyFlat.played Sg50Neutral.step (Sg50Neutral.step (absOff m) (PySg50.whole (wc p g))).1 (cs'.map PySg50.whole))
  rw [e1]
  show _ = told ++ (((mAns m p g).2.length : Int) :: (mAns m p g).2 ++ PyFlat.told (PyFlat.played Sg50Neutral.step (absOff (mAns m p g).1) (cs'.map PySg50.whole)))
  rw [List.append_assoc]
end Po
namespace Po
open PySem L2
/-! ### the office in the heap -/
inductive Cell where
  | off | ppl | kd | prl | pal
  | per (i : Nat) | prc (i : Nat) | stp (i j : Nat) | pap (k : Nat) | acl (k : Nat) | act (k j : Nat)
  deriving DecidableEq
/-- the classes' addresses -/
structure Cl where
  P : Addr
  S : Addr
  A : Addr
  X : Addr
  O : Addr
/-- where each thing stands, and its dict -/
structure Lay where
  ad : Cell → Addr
  dx : Cell → Addr
def perF (p : Per) : List (Str × V) := [("roles", .int p.roles), ("chief", .int p.chief), ("stand_in", .int p.sin), ("stand_in_until", .int p.till)]
def stpF (s : Stp) : List (Str × V) := [("role", .int s.role), ("signatures", .int s.sig), ("days", .int s.days), ("writer_may_sign", .int s.own), ("goes_back_to", .int s.back)]
def actF (a : Ac) : List (Str × V) := [("step", .int a.step), ("turn", .int a.turn), ("by", .int a.by_), ("behalf", .int a.for_), ("signed", .int a.signed)]
def papF (l : Addr) (x : Pap) : List (Str × V) := [("writer", .int x.writer), ("procedure", .int x.proc), ("state", .int x.state), ("step", .int x.step), ("turn", .int x.turn), ("level", .int x.level), ("due", .int x.due), ("acts", .ref l)]
def offF (L : Lay) (m : Off) : List (Str × V) := [("today", .int m.today), ("people", .ref (L.ad .ppl)), ("kept_apart", .ref (L.ad .kd)), ("procedures", .ref (L.ad .prl)), ("papers", .ref (L.ad .pal))]
def k2 (r s : Int) : List Key := [.inl r, .inl s]
def kdPut (d : List (List Key × V)) (p : Int × Int) : List (List Key × V) := putK (putK d (k2 p.1 p.2) (.bl true)) (k2 p.2 p.1) (.bl true)
def kdOf (l : List (Int × Int)) : List (List Key × V) := l.foldl kdPut []
def refs (f : Nat → Addr) (n : Nat) : List V := (List.range n).map fun i => V.ref (f i)
theorem refs_at {f : Nat → Addr} {n i : Nat} (h : i < n) : (refs f n)[i]? = some (.ref (f i)) := by
  unfold refs
  rw [List.getElem?_map, List.getElem?_range h]
  rfl
theorem refs_len (f : Nat → Addr) (n : Nat) : (refs f n).length = n := by
  unfold refs
  rw [List.length_map, List.length_range]
theorem refs_succ (f : Nat → Addr) (n : Nat) : refs f (n + 1) = refs f n ++ [.ref (f n)] := by
  unfold refs
  rw [List.range_succ, List.map_append]
  rfl
theorem refs_congr {f g : Nat → Addr} {n : Nat} (h : ∀ i, i < n → f i = g i) : refs f n = refs g n := by
  unfold refs
  exact List.map_congr_left fun i hi => by rw [h i (List.mem_range.mp hi)]
theorem refs_get {f : Nat → Addr} {n i : Nat} {v : V} (h : (refs f n)[i]? = some v) : i < n ∧ v = .ref (f i) := by
  have hi : i < n := by
    have := (List.getElem?_eq_some_iff.mp h).1
    rw [refs_len] at this
    exact this
  rw [refs_at hi] at h
  exact ⟨hi, (Option.some.inj h).symm⟩
/-- what stands there -/
def obj (C : Cl) (L : Lay) (m : Off) : Cell → Option HO
  | .off => some (.ins C.O (L.dx .off) (offF L m))
  | .ppl => some (.lst (refs (fun i => L.ad (.per i)) m.people.length))
  | .kd => some (.dT (kdOf m.apart))
  | .prl => some (.lst (refs (fun i => L.ad (.prc i)) m.procs.length))
  | .pal => some (.lst (refs (fun i => L.ad (.pap i)) m.papers.length))
  | .per i => m.people[i]?.map fun p => .ins C.P (L.dx (.per i)) (perF p)
  | .prc i => m.procs[i]?.map fun l => .lst (refs (fun j => L.ad (.stp i j)) l.length)
  | .stp i j => (m.procs[i]?.bind fun l => l[j]?).map fun s => .ins C.S (L.dx (.stp i j)) (stpF s)
  | .pap k => m.papers[k]?.map fun x => .ins C.X (L.dx (.pap k)) (papF (L.ad (.acl k)) x)
  | .acl k => m.papers[k]?.map fun x => .lst (refs (fun j => L.ad (.act k j)) x.acts.length)
  | .act k j => (m.papers[k]?.bind fun x => x.acts[j]?).map fun a => .ins C.A (L.dx (.act k j)) (actF a)
def live (m : Off) : Cell → Prop
  | .off => True
  | .ppl => True
  | .kd => True
  | .prl => True
  | .pal => True
  | .per i => i < m.people.length
  | .prc i => i < m.procs.length
  | .stp i j => ∃ l, m.procs[i]? = some l ∧ j < l.length
  | .pap k => k < m.papers.length
  | .acl k => k < m.papers.length
  | .act k j => ∃ x, m.papers[k]? = some x ∧ j < x.acts.length
theorem lt_of_get {α : Type} {l : List α} {i : Nat} {a : α} (h : l[i]? = some a) : i < l.length := (List.getElem?_eq_some_iff.mp h).1
theorem get_of_lt {α : Type} {l : List α} {i : Nat} (h : i < l.length) : ∃ a, l[i]? = some a := ⟨l[i], List.getElem?_eq_getElem h⟩
section
variable {C : Cl} {L L' : Lay} {H H' : Hp} {m m' : Off}
theorem obj_live {c : Cell} {o : HO} (h : obj C L m c = some o) : live m c := by
  cases c with
  | off => trivial
  | ppl => trivial
  | kd => trivial
  | prl => trivial
  | pal => trivial
  | per i => obtain ⟨p, e, _⟩ := Option.map_eq_some_iff.mp (show (m.people[i]?).map _ = _ from h); exact lt_of_get e
  | prc i => obtain ⟨p, e, _⟩ := Option.map_eq_some_iff.mp (show (m.procs[i]?).map _ = _ from h); exact lt_of_get e
  | stp i j =>
    obtain ⟨p, e, _⟩ := Option.map_eq_some_iff.mp (show ((m.procs[i]?).bind _).map _ = _ from h)
    obtain ⟨l, e1, e2⟩ := Option.bind_eq_some_iff.mp e
    exact ⟨l, e1, lt_of_get e2⟩
  | pap i => obtain ⟨p, e, _⟩ := Option.map_eq_some_iff.mp (show (m.papers[i]?).map _ = _ from h); exact lt_of_get e
  | acl i => obtain ⟨p, e, _⟩ := Option.map_eq_some_iff.mp (show (m.papers[i]?).map _ = _ from h); exact lt_of_get e
  | act i j =>
    obtain ⟨p, e, _⟩ := Option.map_eq_some_iff.mp (show ((m.papers[i]?).bind _).map _ = _ from h)
    obtain ⟨l, e1, e2⟩ := Option.bind_eq_some_iff.mp e
    exact ⟨l, e1, lt_of_get e2⟩
theorem live_obj (C : Cl) (L : Lay) {c : Cell} (h : live m c) : ∃ o, obj C L m c = some o := by
  cases c with
  | off => exact ⟨_, rfl⟩
  | ppl => exact ⟨_, rfl⟩
  | kd => exact ⟨_, rfl⟩
  | prl => exact ⟨_, rfl⟩
  | pal => exact ⟨_, rfl⟩
  | per i => obtain ⟨a, e⟩ := get_of_lt (show i < m.people.length from h); exact ⟨_, by show (m.people[i]?).map _ = _; rw [e]; rfl⟩
  | prc i => obtain ⟨a, e⟩ := get_of_lt (show i < m.procs.length from h); exact ⟨_, by show (m.procs[i]?).map _ = _; rw [e]; rfl⟩
  | stp i j =>
    obtain ⟨l, e, h2⟩ := h
    obtain ⟨a, e2⟩ := get_of_lt h2
    exact ⟨_, by show ((m.procs[i]?).bind _).map _ = _; rw [e]; show (l[j]?).map _ = _; rw [e2]; rfl⟩
  | pap i => obtain ⟨a, e⟩ := get_of_lt (show i < m.papers.length from h); exact ⟨_, by show (m.papers[i]?).map _ = _; rw [e]; rfl⟩
  | acl i => obtain ⟨a, e⟩ := get_of_lt (show i < m.papers.length from h); exact ⟨_, by show (m.papers[i]?).map _ = _; rw [e]; rfl⟩
  | act i j =>
    obtain ⟨l, e, h2⟩ := h
    obtain ⟨a, e2⟩ := get_of_lt h2
    exact ⟨_, by show ((m.papers[i]?).bind _).map _ = _; rw [e]; show (l.acts[j]?).map _ = _; rw [e2]; rfl⟩
/-- a layout that agrees where something lives -/
theorem obj_congr (h : ∀ c, live m c → L'.ad c = L.ad c ∧ L'.dx c = L.dx c) (c : Cell) : obj C L' m c = obj C L m c := by
  cases c with
  | off =>
    show some (HO.ins C.O (L'.dx .off) (offF L' m)) = some (HO.ins C.O (L.dx .off) (offF L m))
    unfold offF
    rw [(h .off trivial).2, (h .ppl trivial).1, (h .kd trivial).1, (h .prl trivial).1, (h .pal trivial).1]
  | ppl =>
    show some (HO.lst _) = some (HO.lst _)
    rw [refs_congr (f := fun i => L'.ad (.per i)) fun i hi => (h (.per i) hi).1]
  | kd => rfl
  | prl =>
    show some (HO.lst _) = some (HO.lst _)
    rw [refs_congr (f := fun i => L'.ad (.prc i)) fun i hi => (h (.prc i) hi).1]
  | pal =>
    show some (HO.lst _) = some (HO.lst _)
    rw [refs_congr (f := fun i => L'.ad (.pap i)) fun i hi => (h (.pap i) hi).1]
  | per i =>
    show (m.people[i]?).map _ = (m.people[i]?).map _
    cases e : m.people[i]? with
    | none => rfl
    | some p => show some (HO.ins C.P (L'.dx (.per i)) _) = _; rw [(h (.per i) (lt_of_get e)).2]; rfl
  | prc i =>
    show (m.procs[i]?).map _ = (m.procs[i]?).map _
    cases e : m.procs[i]? with
    | none => rfl
    | some l => show some (HO.lst (refs (fun j => L'.ad (.stp i j)) l.length)) = _; rw [refs_congr (f := fun j => L'.ad (.stp i j)) fun j hj => (h (.stp i j) ⟨l, e, hj⟩).1]; rfl
  | stp i j =>
    show ((m.procs[i]?).bind _).map _ = ((m.procs[i]?).bind _).map _
    cases e : m.procs[i]? with
    | none => rfl
    | some l =>
      show (l[j]?).map _ = (l[j]?).map _
      cases e2 : l[j]? with
      | none => rfl
      | some s => show some (HO.ins C.S (L'.dx (.stp i j)) _) = _; rw [(h (.stp i j) ⟨l, e, lt_of_get e2⟩).2]; rfl
  | pap i =>
    show (m.papers[i]?).map _ = (m.papers[i]?).map _
    cases e : m.papers[i]? with
    | none => rfl
    | some p => show some (HO.ins C.X (L'.dx (.pap i)) (papF (L'.ad (.acl i)) p)) = _; rw [(h (.pap i) (lt_of_get e)).2, (h (.acl i) (lt_of_get e)).1]; rfl
  | acl i =>
    show (m.papers[i]?).map _ = (m.papers[i]?).map _
    cases e : m.papers[i]? with
    | none => rfl
    | some l => show some (HO.lst (refs (fun j => L'.ad (.act i j)) l.acts.length)) = _; rw [refs_congr (f := fun j => L'.ad (.act i j)) fun j hj => (h (.act i j) ⟨l, e, hj⟩).1]; rfl
  | act i j =>
    show ((m.papers[i]?).bind _).map _ = ((m.papers[i]?).bind _).map _
    cases e : m.papers[i]? with
    | none => rfl
    | some l =>
      show (l.acts[j]?).map _ = (l.acts[j]?).map _
      cases e2 : l.acts[j]? with
      | none => rfl
      | some s => show some (HO.ins C.A (L'.dx (.act i j)) _) = _; rw [(h (.act i j) ⟨l, e, lt_of_get e2⟩).2]; rfl
end
/-- **the heap holds the office** -/
structure Rep (C : Cl) (L : Lay) (H : Hp) (m : Off) : Prop where
  at_ : ∀ c o, obj C L m c = some o → H (L.ad c) = some o
  inj : ∀ c d, live m c → live m d → L.ad c = L.ad d → c = d
/-- what a call leaves: the office as it is then; all else as it was -/
structure Grows (C : Cl) (L : Lay) (H : Hp) (m : Off) (L' : Lay) (H' : Hp) (m' : Off) : Prop where
  R : Rep C L' H' m'
  ad : ∀ c, live m c → live m' c ∧ L'.ad c = L.ad c
  kept : ∀ b o, H b = some o → (∀ c, live m c → b ≠ L.ad c) → H' b = some o
  new : ∀ c, live m' c → (∃ d, live m d ∧ L'.ad c = L.ad d) ∨ H (L'.ad c) = none
  dom : ∀ b, H' b = none → H b = none
/-- a thing that is none of the office's -/
def Out (L : Lay) (m : Off) (b : Addr) : Prop := ∀ c, live m c → b ≠ L.ad c
section
variable {C : Cl} {L L' L2 : Lay} {H H' H2 : Hp} {m m' m2 : Off}
theorem Rep.same (R : Rep C L H m) (s : Same H H') : Rep C L H' m := ⟨fun c o e => s _ _ (R.at_ c o e), R.inj⟩
theorem Rep.off (R : Rep C L H m) : H (L.ad .off) = some (.ins C.O (L.dx .off) (offF L m)) := R.at_ .off _ rfl
theorem Rep.ppl (R : Rep C L H m) : H (L.ad .ppl) = some (.lst (refs (fun i => L.ad (.per i)) m.people.length)) := R.at_ .ppl _ rfl
theorem Rep.prl (R : Rep C L H m) : H (L.ad .prl) = some (.lst (refs (fun i => L.ad (.prc i)) m.procs.length)) := R.at_ .prl _ rfl
theorem Rep.pal (R : Rep C L H m) : H (L.ad .pal) = some (.lst (refs (fun i => L.ad (.pap i)) m.papers.length)) := R.at_ .pal _ rfl
theorem Rep.kd (R : Rep C L H m) : H (L.ad .kd) = some (.dT (kdOf m.apart)) := R.at_ .kd _ rfl
theorem Rep.per (R : Rep C L H m) {i : Nat} {p : Per} (h : m.people[i]? = some p) : H (L.ad (.per i)) = some (.ins C.P (L.dx (.per i)) (perF p)) := R.at_ (.per i) _ (by show (m.people[i]?).map _ = _; rw [h]; rfl)
theorem Rep.prc (R : Rep C L H m) {i : Nat} {l : List Stp} (h : m.procs[i]? = some l) : H (L.ad (.prc i)) = some (.lst (refs (fun j => L.ad (.stp i j)) l.length)) := R.at_ (.prc i) _ (by show (m.procs[i]?).map _ = _; rw [h]; rfl)
theorem Rep.stp (R : Rep C L H m) {i j : Nat} {l : List Stp} {s : Stp} (h : m.procs[i]? = some l) (hs : l[j]? = some s) : H (L.ad (.stp i j)) = some (.ins C.S (L.dx (.stp i j)) (stpF s)) :=
  R.at_ (.stp i j) _ (by show ((m.procs[i]?).bind _).map _ = _; rw [h]; show (l[j]?).map _ = _; rw [hs]; rfl)
theorem Rep.pap (R : Rep C L H m) {k : Nat} {x : Pap} (h : m.papers[k]? = some x) : H (L.ad (.pap k)) = some (.ins C.X (L.dx (.pap k)) (papF (L.ad (.acl k)) x)) := R.at_ (.pap k) _ (by show (m.papers[k]?).map _ = _; rw [h]; rfl)
theorem Rep.acl (R : Rep C L H m) {k : Nat} {x : Pap} (h : m.papers[k]? = some x) : H (L.ad (.acl k)) = some (.lst (refs (fun j => L.ad (.act k j)) x.acts.length)) := R.at_ (.acl k) _ (by show (m.papers[k]?).map _ = _; rw [h]; rfl)
theorem Rep.act (R : Rep C L H m) {k j : Nat} {x : Pap} {a : Ac} (h : m.papers[k]? = some x) (ha : x.acts[j]? = some a) : H (L.ad (.act k j)) = some (.ins C.A (L.dx (.act k j)) (actF a)) :=
  R.at_ (.act k j) _ (by show ((m.papers[k]?).bind _).map _ = _; rw [h]; show (x.acts[j]?).map _ = _; rw [ha]; rfl)
theorem Rep.there (R : Rep C L H m) {c : Cell} (h : live m c) : ∃ o, H (L.ad c) = some o := by
  obtain ⟨o, e⟩ := live_obj C L h
  exact ⟨o, R.at_ c o e⟩
theorem Rep.none_out (R : Rep C L H m) {b : Addr} (h : H b = none) : Out L m b := fun c hc e => by
  obtain ⟨o, ho⟩ := R.there hc
  rw [← e, h] at ho
  cases ho
theorem Grows.out (G : Grows C L H m L' H' m') {b : Addr} {o : HO} (hb : H b = some o) (h : Out L m b) : H' b = some o ∧ Out L' m' b :=
  ⟨G.kept b o hb h, fun c hc e => by
    rcases G.new c hc with ⟨d, hd, q⟩ | q
    · exact h d hd (e.trans q)
    · rw [← e, hb] at q
      cases q⟩
theorem Grows.off (G : Grows C L H m L' H' m') : L'.ad .off = L.ad .off := (G.ad .off trivial).2
theorem Grows.refl (R : Rep C L H m) (s : Same H H') : Grows C L H m L H' m := ⟨R.same s, fun c h => ⟨h, rfl⟩, fun b o e _ => s b o e, fun c h => .inl ⟨c, h, rfl⟩, fun b e => by
  cases q : H b with
  | none => rfl
  | some o => rw [s b o q] at e; cases e⟩
theorem Grows.trans (G : Grows C L H m L' H' m') (G2 : Grows C L' H' m' L2 H2 m2) : Grows C L H m L2 H2 m2 := by
  refine ⟨G2.R, fun c h => ⟨(G2.ad c (G.ad c h).1).1, (G2.ad c (G.ad c h).1).2.trans (G.ad c h).2⟩, fun b o e h => ?_, fun c hc => ?_, fun b e => G.dom b (G2.dom b e)⟩
  · obtain ⟨h1, h2⟩ := G.out e h
    exact G2.kept b o h1 h2
  · rcases G2.new c hc with ⟨d, hd, q⟩ | q
    · rcases G.new d hd with ⟨d', hd', q'⟩ | q'
      · exact .inl ⟨d', hd', q.trans q'⟩
      · exact .inr (by rw [q]; exact q')
    · exact .inr (G.dom _ q)
/-- behind it all that's new stays -/
theorem Grows.more (G : Grows C L H m L' H' m') (s : Same H' H2) : Grows C L H m L' H2 m' := G.trans (.refl G.R s)
/-- ahead of it something new was laid -/
theorem Grows.ahead (R : Rep C L H m) (s : Same H H') (G : Grows C L H' m L2 H2 m2) : Grows C L H m L2 H2 m2 := (Grows.refl R s).trans G
/-- **new things are laid; one old one (c0) is written anew** -/
theorem Rep.grow (R : Rep C L H m) (c0 : Cell) (hv : live m c0) (agree : ∀ c, live m c → L'.ad c = L.ad c ∧ L'.dx c = L.dx c)
    (hne : ∀ c, live m c → c ≠ c0 → obj C L' m' c = obj C L' m c) (hfree : ∀ c, ¬ live m c → live m' c → H (L'.ad c) = none)
    (hinj : ∀ c d, ¬ live m c → ¬ live m d → live m' c → live m' d → L'.ad c = L'.ad d → c = d)
    (hnew : ∀ c o, ¬ live m c → obj C L' m' c = some o → H' (L'.ad c) = some o) (h0 : ∃ o, obj C L' m' c0 = some o ∧ H' (L.ad c0) = some o)
    (hk : ∀ b o, H b = some o → b ≠ L.ad c0 → H' b = some o) : Grows C L H m L' H' m' := by
  have hcase : ∀ c, live m c ∨ ¬ live m c := fun c => Classical.em _
  obtain ⟨o0, h0, h00⟩ := h0
  have mono : ∀ c, live m c → live m' c := fun c hc => by
    by_cases ec : c = c0
    · rw [ec]; exact obj_live h0
    · obtain ⟨o, e⟩ := live_obj C L' hc
      rw [← hne c hc ec] at e
      exact obj_live e
  refine ⟨⟨fun c u e => ?_, fun c d hc hd e => ?_⟩, fun c hc => ⟨mono c hc, (agree c hc).1⟩, fun b o e h => hk b o e (h c0 hv), fun c hc => ?_, fun b e => ?_⟩
  · rcases hcase c with hl | hl
    · by_cases ec : c = c0
      · subst ec
        rw [(agree c hl).1, h00, ← h0, e]
      · rw [hne c hl ec, obj_congr agree] at e
        rw [(agree c hl).1]
        exact hk _ _ (R.at_ c u e) fun q => ec (R.inj c c0 hl hv q)
    · exact hnew c u hl e
  · rcases hcase c with hl | hl
    · rcases hcase d with hl2 | hl2
      · rw [(agree c hl).1, (agree d hl2).1] at e
        exact R.inj c d hl hl2 e
      · obtain ⟨o, ho⟩ := R.there hl
        have hf := hfree d hl2 hd
        rw [← e, (agree c hl).1, ho] at hf
        cases hf
    · rcases hcase d with hl2 | hl2
      · obtain ⟨o, ho⟩ := R.there hl2
        have hf := hfree c hl hc
        rw [e, (agree d hl2).1, ho] at hf
        cases hf
      · exact hinj c d hl hl2 hc hd e
  · rcases hcase c with hl | hl
    · exact .inl ⟨c, hl, (agree c hl).1⟩
    · exact .inr (hfree c hl hc)
  · cases q : H b with
    | none => rfl
    | some o =>
      by_cases z : b = L.ad c0
      · rw [z, h00] at e
        cases e
      · rw [hk b o q z] at e
        cases e
/-- one thing is written anew -/
theorem Rep.set (R : Rep C L H m) (c0 : Cell) {o : HO} (hv : live m c0) (h0 : obj C L m' c0 = some o) (hlv : ∀ c, live m' c → live m c) (hne : ∀ c, c ≠ c0 → obj C L m' c = obj C L m c) : Grows C L H m L (upd H (L.ad c0) o) m' :=
  R.grow c0 hv (fun _ _ => ⟨rfl, rfl⟩) (fun c _ h => hne c h) (fun c h h' => absurd (hlv c h') h) (fun c d h _ h' _ _ => absurd (hlv c h') h) (fun c u h e => absurd (hlv c (obj_live e)) h)
    ⟨o, h0, upd_same⟩ (fun b u e h => by rw [upd_ne h]; exact e)
end
/-! ### the changes, cell by cell -/
section
variable {C : Cl} {L : Lay} {m : Off}
theorem obj_today {t : Int} {c : Cell} (h : c ≠ .off) : obj C L { m with today := t } c = obj C L m c := by
  cases c <;> first | exact absurd rfl h | rfl
theorem obj_apart {l : List (Int × Int)} {c : Cell} (h : c ≠ .kd) : obj C L { m with apart := l } c = obj C L m c := by
  cases c <;> first | exact absurd rfl h | rfl
theorem obj_setPer {i : Nat} {p : Per} {c : Cell} (h : c ≠ .per i) : obj C L { m with people := m.people.set i p } c = obj C L m c := by
  cases c with
  | ppl => show some (HO.lst (refs _ (m.people.set i p).length)) = _; rw [List.length_set]; rfl
  | per j =>
    show ((m.people.set i p)[j]?).map _ = _
    rw [List.getElem?_set_ne fun e => h (by rw [e])]
    rfl
  | _ => rfl
theorem live_setPer {i : Nat} {p : Per} {c : Cell} (h : live { m with people := m.people.set i p } c) : live m c := by
  cases c with
  | per j =>
    have h' : j < (m.people.set i p).length := h
    rw [List.length_set] at h'
    exact h'
  | _ => exact h
theorem obj_setPap {k : Nat} {x y : Pap} (hk : m.papers[k]? = some x) (hy : y.acts = x.acts) {c : Cell} (h : c ≠ .pap k) : obj C L { m with papers := m.papers.set k y } c = obj C L m c := by
  have hs : (m.papers.set k y)[k]? = some y := List.getElem?_set_self (lt_of_get hk)
  cases c with
  | pal => show some (HO.lst (refs _ (m.papers.set k y).length)) = _; rw [List.length_set]; rfl
  | pap j =>
    show ((m.papers.set k y)[j]?).map _ = _
    rw [List.getElem?_set_ne fun e => h (by rw [e])]
    rfl
  | acl j =>
    show ((m.papers.set k y)[j]?).map _ = (m.papers[j]?).map _
    by_cases e : k = j
    · subst e
      rw [hs, hk]
      show some (HO.lst (refs _ y.acts.length)) = some (HO.lst (refs _ x.acts.length))
      rw [hy]
    · rw [List.getElem?_set_ne e]
  | act j i =>
    show (((m.papers.set k y)[j]?).bind _).map _ = ((m.papers[j]?).bind _).map _
    by_cases e : k = j
    · subst e
      rw [hs, hk]
      show (y.acts[i]?).map _ = (x.acts[i]?).map _
      rw [hy]
    · rw [List.getElem?_set_ne e]
  | _ => rfl
theorem live_setPap {k : Nat} {x y : Pap} (hk : m.papers[k]? = some x) (hy : y.acts = x.acts) {c : Cell} (h : live { m with papers := m.papers.set k y } c) : live m c := by
  cases c with
  | pap j =>
    have h' : j < (m.papers.set k y).length := h
    rw [List.length_set] at h'
    exact h'
  | acl j =>
    have h' : j < (m.papers.set k y).length := h
    rw [List.length_set] at h'
    exact h'
  | act j i =>
    obtain ⟨z, e, hi⟩ := h
    have e' : (m.papers.set k y)[j]? = some z := e
    by_cases q : k = j
    · subst q
      rw [List.getElem?_set_self (lt_of_get hk)] at e'
      have := Option.some.inj e'
      subst this
      exact ⟨x, hk, by rw [← hy]; exact hi⟩
    · rw [List.getElem?_set_ne q] at e'
      exact ⟨z, e', hi⟩
  | _ => exact h
theorem obj_addPer {p : Per} {c : Cell} (hl : live m c) (h : c ≠ .ppl) : obj C L { m with people := m.people ++ [p] } c = obj C L m c := by
  cases c with
  | ppl => exact absurd rfl h
  | per j =>
    show ((m.people ++ [p])[j]?).map _ = _
    rw [List.getElem?_append_left hl]
    rfl
  | _ => rfl
theorem obj_addPap {p : Pap} {c : Cell} (hl : live m c) (h : c ≠ .pal) : obj C L { m with papers := m.papers ++ [p] } c = obj C L m c := by
  cases c with
  | pal => exact absurd rfl h
  | pap j =>
    show ((m.papers ++ [p])[j]?).map _ = _
    rw [List.getElem?_append_left hl]
    rfl
  | acl j =>
    show ((m.papers ++ [p])[j]?).map _ = _
    rw [List.getElem?_append_left hl]
    rfl
  | act j i =>
    obtain ⟨x, e, _⟩ := hl
    show (((m.papers ++ [p])[j]?).bind _).map _ = _
    rw [List.getElem?_append_left (lt_of_get e)]
    rfl
  | _ => rfl
theorem obj_addPrc {p : List Stp} {c : Cell} (hl : live m c) (h : c ≠ .prl) : obj C L { m with procs := m.procs ++ [p] } c = obj C L m c := by
  cases c with
  | prl => exact absurd rfl h
  | prc j =>
    show ((m.procs ++ [p])[j]?).map _ = _
    rw [List.getElem?_append_left hl]
    rfl
  | stp j i =>
    obtain ⟨x, e, _⟩ := hl
    show (((m.procs ++ [p])[j]?).bind _).map _ = _
    rw [List.getElem?_append_left (lt_of_get e)]
    rfl
  | _ => rfl
theorem obj_addAct {k : Nat} {x : Pap} {a : Ac} (hk : m.papers[k]? = some x) {c : Cell} (hl : live m c) (h : c ≠ .acl k) : obj C L { m with papers := m.papers.set k { x with acts := x.acts ++ [a] } } c = obj C L m c := by
  have hs : (m.papers.set k { x with acts := x.acts ++ [a] })[k]? = some { x with acts := x.acts ++ [a] } := List.getElem?_set_self (lt_of_get hk)
  cases c with
  | pal => show some (HO.lst (refs _ (m.papers.set k _).length)) = _; rw [List.length_set]; rfl
  | pap j =>
    show ((m.papers.set k _)[j]?).map _ = (m.papers[j]?).map _
    by_cases e : k = j
    · subst e
      rw [hs, hk]
      rfl
    · rw [List.getElem?_set_ne e]
  | acl j =>
    show ((m.papers.set k _)[j]?).map _ = (m.papers[j]?).map _
    rw [List.getElem?_set_ne fun e => h (by rw [e])]
  | act j i =>
    obtain ⟨z, e2, hi⟩ := hl
    show (((m.papers.set k _)[j]?).bind _).map _ = ((m.papers[j]?).bind _).map _
    by_cases e : k = j
    · subst e
      rw [hk] at e2
      have := Option.some.inj e2
      subst this
      rw [hs, hk]
      show ((x.acts ++ [a])[i]?).map _ = (x.acts[i]?).map _
      rw [List.getElem?_append_left hi]
    · rw [List.getElem?_set_ne e]
  | _ => rfl
end
/-- the layout with one cell more -/
def Lay.put (L : Lay) (c : Cell) (a d : Addr) : Lay := ⟨fun e => if e = c then a else L.ad e, fun e => if e = c then d else L.dx e⟩
theorem Lay.put_same (L : Lay) (c : Cell) (a d : Addr) : (L.put c a d).ad c = a ∧ (L.put c a d).dx c = d := ⟨if_pos rfl, if_pos rfl⟩
theorem Lay.put_ne (L : Lay) {c e : Cell} (a d : Addr) (h : e ≠ c) : (L.put c a d).ad e = L.ad e ∧ (L.put c a d).dx e = L.dx e := ⟨if_neg h, if_neg h⟩
section
variable {C : Cl} {L : Lay} {H H' : Hp} {m : Off}
theorem Rep.setPer (R : Rep C L H m) {i : Nat} {p : Per} (h : m.people[i]? = some p) (q : Per) : Grows C L H m L (upd H (L.ad (.per i)) (.ins C.P (L.dx (.per i)) (perF q))) { m with people := m.people.set i q } :=
  R.set (.per i) (lt_of_get h) (by show ((m.people.set i q)[i]?).map _ = _; rw [List.getElem?_set_self (lt_of_get h)]; rfl) (fun c => live_setPer) (fun c => obj_setPer)
theorem Rep.setPap (R : Rep C L H m) {k : Nat} {x : Pap} (h : m.papers[k]? = some x) {y : Pap} (hy : y.acts = x.acts) : Grows C L H m L (upd H (L.ad (.pap k)) (.ins C.X (L.dx (.pap k)) (papF (L.ad (.acl k)) y))) { m with papers := m.papers.set k y } :=
  R.set (.pap k) (lt_of_get h) (by show ((m.papers.set k y)[k]?).map _ = _; rw [List.getElem?_set_self (lt_of_get h)]; rfl) (fun c => live_setPap h hy) (fun c => obj_setPap h hy)
theorem Rep.setToday (R : Rep C L H m) (t : Int) : Grows C L H m L (upd H (L.ad .off) (.ins C.O (L.dx .off) (offF L { m with today := t }))) { m with today := t } :=
  R.set .off trivial rfl (fun c h => by cases c <;> exact h) (fun c => obj_today)
theorem snoc_at {α : Type} {l : List α} {a : α} : (l ++ [a])[l.length]? = some a := by rw [List.getElem?_append_right (Nat.le_refl _), Nat.sub_self]; rfl
theorem snoc_lt {α : Type} {l : List α} {a : α} {i : Nat} (h : i < (l ++ [a]).length) : i < l.length ∨ i = l.length := by rw [List.length_append] at h; have h' : i < l.length + 1 := h; omega
/-- a person more -/
theorem Rep.addPer (R : Rep C L H m) {a dx : Addr} {p : Per} (na : H a = none) (ha : H' a = some (.ins C.P dx (perF p)))
    (hl : H' (L.ad .ppl) = some (.lst (refs (fun i => L.ad (.per i)) m.people.length ++ [.ref a]))) (hk : ∀ b o, H b = some o → b ≠ L.ad .ppl → H' b = some o) :
    ∃ L', Grows C L H m L' H' { m with people := m.people ++ [p] } := by
  have hnew : ∀ c, ¬ live m c → live { m with people := m.people ++ [p] } c → c = .per m.people.length := fun c hn hc => by
    cases c with
    | per i =>
      rcases snoc_lt (show i < (m.people ++ [p]).length from hc) with q | q
      · exact absurd q hn
      · rw [q]
    | _ => exact absurd hc hn
  have hne : ∀ c, live m c → c ≠ .per m.people.length := fun c hc e => by
    rw [e] at hc
    exact absurd (show m.people.length < m.people.length from hc) (Nat.lt_irrefl _)
  have e1 := (L.put_same (.per m.people.length) a dx).1
  have e2 := (L.put_same (.per m.people.length) a dx).2
  refine ⟨L.put (.per m.people.length) a dx, R.grow .ppl trivial (fun c hc => L.put_ne a dx (hne c hc)) (fun c hc hn => obj_addPer hc hn) (fun c hn hc => ?_) (fun c d hn hm hc hd _ => (hnew c hn hc).trans (hnew d hm hd).symm) (fun c o hn e => ?_) ⟨_, rfl, ?_⟩ hk⟩
  · rw [hnew c hn hc, e1]; exact na
  · have := hnew c hn (obj_live e)
    subst this
    rw [e1, ha, ← e]
    show _ = ((m.people ++ [p])[m.people.length]?).map _
    rw [snoc_at, e2]
    rfl
  · rw [hl]
    congr 2
    show _ = refs _ (m.people ++ [p]).length
    rw [List.length_append]
    show _ = refs _ (m.people.length + 1)
    rw [refs_succ, e1, refs_congr fun i hi => (L.put_ne a dx (hne (.per i) hi)).1]
/-- a paper more -/
theorem Rep.addPap (R : Rep C L H m) {a dx l : Addr} {x : Pap} (hx : x.acts = []) (na : H a = none) (nl : H l = none) (hla : l ≠ a) (ha : H' a = some (.ins C.X dx (papF l x))) (hll : H' l = some (.lst []))
    (hl : H' (L.ad .pal) = some (.lst (refs (fun i => L.ad (.pap i)) m.papers.length ++ [.ref a]))) (hk : ∀ b o, H b = some o → b ≠ L.ad .pal → H' b = some o) :
    ∃ L', Grows C L H m L' H' { m with papers := m.papers ++ [x] } := by
  have hnew : ∀ c, ¬ live m c → live { m with papers := m.papers ++ [x] } c → c = .pap m.papers.length ∨ c = .acl m.papers.length := fun c hn hc => by
    cases c with
    | pap i =>
      rcases snoc_lt (show i < (m.papers ++ [x]).length from hc) with q | q
      · exact absurd q hn
      · exact .inl (by rw [q])
    | acl i =>
      rcases snoc_lt (show i < (m.papers ++ [x]).length from hc) with q | q
      · exact absurd q hn
      · exact .inr (by rw [q])
    | act i j =>
      obtain ⟨z, e, hj⟩ := hc
      have e' : (m.papers ++ [x])[i]? = some z := e
      rcases snoc_lt (lt_of_get e') with q | q
      · rw [List.getElem?_append_left q] at e'
        exact absurd ⟨z, e', hj⟩ hn
      · rw [q, snoc_at] at e'
        have := Option.some.inj e'
        subst this
        rw [hx] at hj
        exact absurd hj (Nat.not_lt_zero _)
    | _ => exact absurd hc hn
  have hne1 : ∀ c, live m c → c ≠ .pap m.papers.length := fun c hc e => by
    rw [e] at hc
    exact absurd (show m.papers.length < m.papers.length from hc) (Nat.lt_irrefl _)
  have hne2 : ∀ c, live m c → c ≠ .acl m.papers.length := fun c hc e => by
    rw [e] at hc
    exact absurd (show m.papers.length < m.papers.length from hc) (Nat.lt_irrefl _)
  have hpa : (Cell.pap m.papers.length) ≠ .acl m.papers.length := fun q => nomatch q
  have e1 : ((L.put (.pap m.papers.length) a dx).put (.acl m.papers.length) l l).ad (.pap m.papers.length) = a := ((L.put (.pap m.papers.length) a dx).put_ne l l hpa).1.trans (L.put_same _ a dx).1
  have e2 : ((L.put (.pap m.papers.length) a dx).put (.acl m.papers.length) l l).dx (.pap m.papers.length) = dx := ((L.put (.pap m.papers.length) a dx).put_ne l l hpa).2.trans (L.put_same _ a dx).2
  have e3 : ((L.put (.pap m.papers.length) a dx).put (.acl m.papers.length) l l).ad (.acl m.papers.length) = l := ((L.put (.pap m.papers.length) a dx).put_same _ l l).1
  have old : ∀ c, live m c → ((L.put (.pap m.papers.length) a dx).put (.acl m.papers.length) l l).ad c = L.ad c ∧ ((L.put (.pap m.papers.length) a dx).put (.acl m.papers.length) l l).dx c = L.dx c := fun c hc =>
    ⟨((L.put (.pap m.papers.length) a dx).put_ne l l (hne2 c hc)).1.trans (L.put_ne a dx (hne1 c hc)).1, ((L.put (.pap m.papers.length) a dx).put_ne l l (hne2 c hc)).2.trans (L.put_ne a dx (hne1 c hc)).2⟩
  refine ⟨(L.put (.pap m.papers.length) a dx).put (.acl m.papers.length) l l, R.grow .pal trivial old (fun c hc hn => obj_addPap hc hn) (fun c hn hc => ?_) (fun c d hn hm hc hd e => ?_) (fun c o hn e => ?_) ⟨_, rfl, ?_⟩ hk⟩
  · rcases hnew c hn hc with q | q
    · rw [q, e1]; exact na
    · rw [q, e3]; exact nl
  · rcases hnew c hn hc with q | q
    · rcases hnew d hm hd with q2 | q2
      · rw [q, q2]
      · rw [q, q2, e1, e3] at e
        exact absurd e.symm hla
    · rcases hnew d hm hd with q2 | q2
      · rw [q, q2, e1, e3] at e
        exact absurd e hla
      · rw [q, q2]
  · rcases hnew c hn (obj_live e) with q | q
    · subst q
      rw [e1, ha, ← e]
      show _ = ((m.papers ++ [x])[m.papers.length]?).map _
      rw [snoc_at]
      show _ = some (HO.ins C.X _ (papF _ x))
      rw [e2, e3]
    · subst q
      rw [e3, hll, ← e]
      show _ = ((m.papers ++ [x])[m.papers.length]?).map _
      rw [snoc_at]
      show _ = some (HO.lst (refs _ x.acts.length))
      rw [hx]
      rfl
  · rw [hl]
    congr 2
    show _ = refs _ (m.papers ++ [x]).length
    rw [List.length_append]
    show _ = refs _ (m.papers.length + 1)
    rw [refs_succ, e1, refs_congr fun i hi => (old (.pap i) hi).1]
/-- an act more -/
theorem Rep.addAct (R : Rep C L H m) {k : Nat} {x : Pap} (hkx : m.papers[k]? = some x) {a dx : Addr} {c : Ac} (na : H a = none) (ha : H' a = some (.ins C.A dx (actF c)))
    (hl : H' (L.ad (.acl k)) = some (.lst (refs (fun i => L.ad (.act k i)) x.acts.length ++ [.ref a]))) (hk : ∀ b o, H b = some o → b ≠ L.ad (.acl k) → H' b = some o) :
    ∃ L', Grows C L H m L' H' { m with papers := m.papers.set k { x with acts := x.acts ++ [c] } } := by
  have hs : (m.papers.set k { x with acts := x.acts ++ [c] })[k]? = some { x with acts := x.acts ++ [c] } := List.getElem?_set_self (lt_of_get hkx)
  have hnew : ∀ d, ¬ live m d → live { m with papers := m.papers.set k { x with acts := x.acts ++ [c] } } d → d = .act k x.acts.length := fun d hn hc => by
    cases d with
    | pap i =>
      have h' : i < (m.papers.set k { x with acts := x.acts ++ [c] }).length := hc
      rw [List.length_set] at h'
      exact absurd h' hn
    | acl i =>
      have h' : i < (m.papers.set k { x with acts := x.acts ++ [c] }).length := hc
      rw [List.length_set] at h'
      exact absurd h' hn
    | act i j =>
      obtain ⟨z, e, hj⟩ := hc
      have e' : (m.papers.set k { x with acts := x.acts ++ [c] })[i]? = some z := e
      by_cases q : k = i
      · subst q
        rw [hs] at e'
        have := Option.some.inj e'
        subst this
        rcases snoc_lt (show j < (x.acts ++ [c]).length from hj) with q | q
        · exact absurd ⟨x, hkx, q⟩ hn
        · rw [q]
      · rw [List.getElem?_set_ne q] at e'
        exact absurd ⟨z, e', hj⟩ hn
    | _ => exact absurd hc hn
  have hne : ∀ d, live m d → d ≠ .act k x.acts.length := fun d hc e => by
    rw [e] at hc
    obtain ⟨z, e', hj⟩ := hc
    rw [hkx] at e'
    have := Option.some.inj e'
    subst this
    exact absurd hj (Nat.lt_irrefl _)
  have e1 := (L.put_same (.act k x.acts.length) a dx).1
  have e2 := (L.put_same (.act k x.acts.length) a dx).2
  refine ⟨L.put (.act k x.acts.length) a dx, R.grow (.acl k) (lt_of_get hkx) (fun d hc => L.put_ne a dx (hne d hc)) (fun d hc hn => obj_addAct hkx hc hn) (fun d hn hc => ?_) (fun d e hn hm hc hd _ => (hnew d hn hc).trans (hnew e hm hd).symm) (fun d o hn e => ?_) ⟨_, ?_, hl⟩ hk⟩
  · rw [hnew d hn hc, e1]; exact na
  · have := hnew d hn (obj_live e)
    subst this
    rw [e1, ha, ← e]
    show _ = (((m.papers.set k { x with acts := x.acts ++ [c] })[k]?).bind _).map _
    rw [hs]
    show _ = ((x.acts ++ [c])[x.acts.length]?).map _
    rw [snoc_at, e2]
    rfl
  · show ((m.papers.set k { x with acts := x.acts ++ [c] })[k]?).map _ = _
    rw [hs]
    show some (HO.lst (refs _ (x.acts ++ [c]).length)) = _
    rw [List.length_append]
    show some (HO.lst (refs _ (x.acts.length + 1))) = _
    rw [refs_succ, e1, refs_congr fun i hi => (L.put_ne a dx (hne (.act k i) ⟨x, hkx, hi⟩)).1]
/-- a procedure more -/
theorem Rep.addPrc (R : Rep C L H m) {D : Addr} {g d : Nat → Addr} {l : List Stp} (nD : H D = none) (hD : H' D = some (.lst (refs g l.length))) (ng : ∀ j, j < l.length → H (g j) = none ∧ g j ≠ D)
    (hg : ∀ j s, l[j]? = some s → H' (g j) = some (.ins C.S (d j) (stpF s))) (inj : ∀ i j, i < l.length → j < l.length → g i = g j → i = j)
    (hl : H' (L.ad .prl) = some (.lst (refs (fun i => L.ad (.prc i)) m.procs.length ++ [.ref D]))) (hk : ∀ b o, H b = some o → b ≠ L.ad .prl → H' b = some o) :
    ∃ L', Grows C L H m L' H' { m with procs := m.procs ++ [l] } := by
  have hnew : ∀ c, ¬ live m c → live { m with procs := m.procs ++ [l] } c → c = .prc m.procs.length ∨ ∃ j, j < l.length ∧ c = .stp m.procs.length j := fun c hn hc => by
    cases c with
    | prc i =>
      rcases snoc_lt (show i < (m.procs ++ [l]).length from hc) with q | q
      · exact absurd q hn
      · exact .inl (by rw [q])
    | stp i j =>
      obtain ⟨z, e, hj⟩ := hc
      have e' : (m.procs ++ [l])[i]? = some z := e
      rcases snoc_lt (lt_of_get e') with q | q
      · rw [List.getElem?_append_left q] at e'
        exact absurd ⟨z, e', hj⟩ hn
      · rw [q, snoc_at] at e'
        have := Option.some.inj e'
        subst this
        exact .inr ⟨j, hj, by rw [q]⟩
    | _ => exact absurd hc hn
  let L2 : Lay := ⟨fun c => match c with | .prc i => if i = m.procs.length then D else L.ad (.prc i) | .stp i j => if i = m.procs.length then g j else L.ad (.stp i j) | c => L.ad c,
    fun c => match c with | .stp i j => if i = m.procs.length then d j else L.dx (.stp i j) | c => L.dx c⟩
  have e1 : L2.ad (.prc m.procs.length) = D := if_pos rfl
  have e2 : ∀ j, L2.ad (.stp m.procs.length j) = g j := fun j => if_pos rfl
  have e3 : ∀ j, L2.dx (.stp m.procs.length j) = d j := fun j => if_pos rfl
  have old : ∀ c, live m c → L2.ad c = L.ad c ∧ L2.dx c = L.dx c := fun c hc => by
    cases c with
    | prc i => exact ⟨if_neg (Nat.ne_of_lt hc), rfl⟩
    | stp i j =>
      obtain ⟨z, e, _⟩ := hc
      exact ⟨if_neg (Nat.ne_of_lt (lt_of_get e)), if_neg (Nat.ne_of_lt (lt_of_get e))⟩
    | _ => exact ⟨rfl, rfl⟩
  refine ⟨L2, R.grow .prl trivial old (fun c hc hn => obj_addPrc hc hn) (fun c hn hc => ?_) (fun c e hn hm hc hd q => ?_) (fun c o hn e => ?_) ⟨_, rfl, ?_⟩ hk⟩
  · rcases hnew c hn hc with q | ⟨j, hj, q⟩
    · rw [q, e1]; exact nD
    · rw [q, e2]; exact (ng j hj).1
  · rcases hnew c hn hc with z | ⟨j, hj, z⟩
    · rcases hnew e hm hd with z2 | ⟨j2, hj2, z2⟩
      · rw [z, z2]
      · rw [z, z2, e1, e2] at q
        exact absurd q.symm (ng j2 hj2).2
    · rcases hnew e hm hd with z2 | ⟨j2, hj2, z2⟩
      · rw [z, z2, e1, e2] at q
        exact absurd q (ng j hj).2
      · rw [z, z2, e2, e2] at q
        rw [z, z2, inj j j2 hj hj2 q]
  · rcases hnew c hn (obj_live e) with q | ⟨j, hj, q⟩
    · subst q
      rw [e1, hD, ← e]
      show _ = ((m.procs ++ [l])[m.procs.length]?).map _
      rw [snoc_at]
      show _ = some (HO.lst (refs _ l.length))
      rw [refs_congr fun i _ => e2 i]
    · subst q
      obtain ⟨s, hs⟩ := get_of_lt hj
      rw [e2, hg j s hs, ← e]
      show _ = (((m.procs ++ [l])[m.procs.length]?).bind _).map _
      rw [snoc_at]
      show _ = (l[j]?).map _
      rw [hs]
      show _ = some (HO.ins C.S _ (stpF s))
      rw [e3]
  · rw [hl]
    congr 2
    show _ = refs _ (m.procs ++ [l]).length
    rw [List.length_append]
    show _ = refs _ (m.procs.length + 1)
    rw [refs_succ, e1, refs_congr fun i hi => (old (.prc i) hi).1]
end
end Po
namespace Po
open PySem L2
/-! ### the text -/
/-- a number of the module's top -/
def Cst (mg : Str → Option Value) (x : Str) (z : Int) : Prop := ∃ t, mg x = some (.int z t)
theorem pe_cst {X : Cx} {x : Str} {z : Int} {pos : Pos} (hg : Gl X x) (h : Cst X.mg x z) (hd : (x == ("__debug__" : Str)) = false := by decide) : PE X (.Name x pos) (tC (.int z)) := by
  obtain ⟨t, e⟩ := h
  exact pe_glob hg e ⟨t, rfl⟩ hd
/-- a table of the module's top, its keys and values whole numbers -/
def ModD (P : Program) (w : World) (K : PySem.W.Frag) (d : Addr) (kvs : List (Int × Int)) : Prop :=
  ∀ h : Heap, K.In h → ∃ vs : List (Key × Value), h.DictOf (mixKind P w) d vs ∧ ∀ k v, kvs.lookup k = some v → ∃ t, valueAt vs (Sum.inl k) = some (.int v t)
def tDM (kvs : List (Int × Int)) (ty : TE) : TE := fun σ H Q => ty σ H fun y H2 => ∃ k v, y = .int k ∧ kvs.lookup k = some v ∧ Q (.int v) H2
theorem pe_dgetM {X : Cx} {i : Expr} {ty : TE} {x : Str} {p pos : Pos} {d : Addr} {kvs : List (Int × Int)} (hd : ModD X.prog X.w X.K d kvs) (hi : PE X i ty) (hs : NoSl i) (hg : Gl X x) (hm : X.mg x = some (.ref d)) (hdb : (x == ("__debug__" : Str)) = false := by decide) :
    PE X (.Subscript (.Name x p) i pos) (tDM kvs ty) := by
  intro pins s σ H Q I h
  refine subD_of PySem.F.slot_dict_getitem.lookup hs (ld_glob I hg hm (thn (hi pins s σ H _ I h) fun iv s2 ⟨y, H2, I2, ry, k, v, ey, hk, q2⟩ => ?_) hdb)
  subst ey
  obtain ⟨vs, dd, hv⟩ := hd s2.heap I2.kIn
  obtain ⟨t, e⟩ := hv k v hk
  exact ⟨dd.typeIs, PySem.wpAny_getItem_of (kV_is (k := Sum.inl k) ry) dd.mapOf e ⟨.int v, H2, I2.tok _, ⟨t, rfl⟩, q2⟩⟩
def top (i : Nat) : Stmt := PySem.Challenge.pw_paperoffice_s01_answers.main.body.getD i (.Pass ⟨0, 0, 0, 0⟩)
abbrev s_has : Stmt := (top 14)
abbrev p_has : List Str := ["things", "number"]
theorem sc_has : FnScope ["things", "number"] p_has (defScope s_has) := ⟨rfl, rfl, rfl, by decide +kernel, rfl, by decide +kernel, by decide +kernel⟩
abbrev s_is_role : Stmt := (top 15)
abbrev p_is_role : List Str := ["number"]
theorem sc_is_role : FnScope ["number"] p_is_role (defScope s_is_role) := ⟨rfl, rfl, rfl, by decide +kernel, rfl, by decide +kernel, by decide +kernel⟩
abbrev s_current_step : Stmt := (top 16)
abbrev p_current_step : List Str := ["office", "paper"]
theorem sc_current_step : FnScope ["office", "paper"] p_current_step (defScope s_current_step) := ⟨rfl, rfl, rfl, by decide +kernel, rfl, by decide +kernel, by decide +kernel⟩
abbrev s_due_from_today : Stmt := (top 17)
abbrev p_due_from_today : List Str := ["office", "paper"]
theorem sc_due_from_today : FnScope ["office", "paper"] p_due_from_today (defScope s_due_from_today) := ⟨rfl, rfl, rfl, by decide +kernel, rfl, by decide +kernel, by decide +kernel⟩
abbrev s_may_be_last_day : Stmt := (top 29)
abbrev p_may_be_last_day : List Str := ["office", "day"]
theorem sc_may_be_last_day : FnScope ["office", "day"] p_may_be_last_day (defScope s_may_be_last_day) := ⟨rfl, rfl, rfl, by decide +kernel, rfl, by decide +kernel, by decide +kernel⟩
abbrev s_be_away : Stmt := (top 30)
abbrev p_be_away : List Str := ["office", "number", "other", "until"]
theorem sc_be_away : FnScope ["office", "number", "other", "until", "person"] p_be_away (defScope s_be_away) := ⟨rfl, rfl, rfl, by decide +kernel, rfl, by decide +kernel, by decide +kernel⟩
abbrev s_be_back : Stmt := (top 31)
abbrev p_be_back : List Str := ["office", "number"]
theorem sc_be_back : FnScope ["office", "number", "person"] p_be_back (defScope s_be_back) := ⟨rfl, rfl, rfl, by decide +kernel, rfl, by decide +kernel, by decide +kernel⟩
abbrev s_is_late : Stmt := (top 35)
abbrev p_is_late : List Str := ["office", "paper"]
theorem sc_is_late : FnScope ["office", "paper"] p_is_late (defScope s_is_late) := ⟨rfl, rfl, rfl, by decide +kernel, rfl, by decide +kernel, by decide +kernel⟩
abbrev s_rise_or_lapse : Stmt := (top 36)
abbrev p_rise_or_lapse : List Str := ["office", "paper"]
theorem sc_rise_or_lapse : FnScope ["office", "paper"] p_rise_or_lapse (defScope s_rise_or_lapse) := ⟨rfl, rfl, rfl, by decide +kernel, rfl, by decide +kernel, by decide +kernel⟩
abbrev s_pass_one_day : Stmt := (top 37)
abbrev p_pass_one_day : List Str := ["office"]
theorem sc_pass_one_day : FnScope ["office", "paper"] p_pass_one_day (defScope s_pass_one_day) := ⟨rfl, rfl, rfl, by decide +kernel, rfl, by decide +kernel, by decide +kernel⟩
abbrev s_pass_days : Stmt := (top 38)
abbrev p_pass_days : List Str := ["office", "count"]
theorem sc_pass_days : FnScope ["office", "count", "passed"] p_pass_days (defScope s_pass_days) := ⟨rfl, rfl, rfl, by decide +kernel, rfl, by decide +kernel, by decide +kernel⟩
abbrev s_stands_for : Stmt := (top 40)
abbrev p_stands_for : List Str := ["office", "by", "behalf"]
theorem sc_stands_for : FnScope ["office", "by", "behalf", "person"] p_stands_for (defScope s_stands_for) := ⟨rfl, rfl, rfl, by decide +kernel, rfl, by decide +kernel, by decide +kernel⟩
abbrev s_holds : Stmt := (top 41)
abbrev p_holds : List Str := ["person", "role"]
theorem sc_holds : FnScope ["person", "role"] p_holds (defScope s_holds) := ⟨rfl, rfl, rfl, by decide +kernel, rfl, by decide +kernel, by decide +kernel⟩
abbrev s_is_within_levels_above : Stmt := (top 42)
abbrev p_is_within_levels_above : List Str := ["office", "chief", "worker", "levels"]
theorem sc_is_within_levels_above : FnScope ["office", "chief", "worker", "levels", "reached", "climbed"] p_is_within_levels_above (defScope s_is_within_levels_above) := ⟨rfl, rfl, rfl, by decide +kernel, rfl, by decide +kernel, by decide +kernel⟩
abbrev s_is_entitled : Stmt := (top 43)
abbrev p_is_entitled : List Str := ["office", "number", "role", "level"]
theorem sc_is_entitled : FnScope ["office", "number", "role", "level", "holder", "person"] p_is_entitled (defScope s_is_entitled) := ⟨rfl, rfl, rfl, by decide +kernel, rfl, by decide +kernel, by decide +kernel⟩
abbrev s_has_part_in : Stmt := (top 44)
abbrev p_has_part_in : List Str := ["act", "by", "behalf"]
theorem sc_has_part_in : FnScope ["act", "by", "behalf"] p_has_part_in (defScope s_has_part_in) := ⟨rfl, rfl, rfl, by decide +kernel, rfl, by decide +kernel, by decide +kernel⟩
abbrev s_acted_in_this_round : Stmt := (top 45)
abbrev p_acted_in_this_round : List Str := ["paper", "by", "behalf"]
theorem sc_acted_in_this_round : FnScope ["paper", "by", "behalf", "act"] p_acted_in_this_round (defScope s_acted_in_this_round) := ⟨rfl, rfl, rfl, by decide +kernel, rfl, by decide +kernel, by decide +kernel⟩
abbrev s_acted_in_a_role_kept_apart : Stmt := (top 46)
abbrev p_acted_in_a_role_kept_apart : List Str := ["office", "paper", "by", "behalf"]
theorem sc_acted_in_a_role_kept_apart : FnScope ["office", "paper", "by", "behalf", "steps", "role", "act"] p_acted_in_a_role_kept_apart (defScope s_acted_in_a_role_kept_apart) := ⟨rfl, rfl, rfl, by decide +kernel, rfl, by decide +kernel, by decide +kernel⟩
abbrev s_refusal_to_act : Stmt := (top 47)
abbrev p_refusal_to_act : List Str := ["office", "by", "behalf", "paper"]
theorem sc_refusal_to_act : FnScope ["office", "by", "behalf", "paper", "step"] p_refusal_to_act (defScope s_refusal_to_act) := ⟨rfl, rfl, rfl, by decide +kernel, rfl, by decide +kernel, by decide +kernel⟩
abbrev s_come_to : Stmt := (top 51)
abbrev p_come_to : List Str := ["office", "paper", "number"]
theorem sc_come_to : FnScope ["office", "paper", "number"] p_come_to (defScope s_come_to) := ⟨rfl, rfl, rfl, by decide +kernel, rfl, by decide +kernel, by decide +kernel⟩
abbrev s_file_paper : Stmt := (top 52)
abbrev p_file_paper : List Str := ["office", "writer", "procedure"]
theorem sc_file_paper : FnScope ["office", "writer", "procedure", "paper"] p_file_paper (defScope s_file_paper) := ⟨rfl, rfl, rfl, by decide +kernel, rfl, by decide +kernel, by decide +kernel⟩
abbrev s_note_act : Stmt := (top 53)
abbrev p_note_act : List Str := ["paper", "by", "behalf", "signed"]
theorem sc_note_act : FnScope ["paper", "by", "behalf", "signed"] p_note_act (defScope s_note_act) := ⟨rfl, rfl, rfl, by decide +kernel, rfl, by decide +kernel, by decide +kernel⟩
abbrev s_signatures_in_this_round : Stmt := (top 54)
abbrev p_signatures_in_this_round : List Str := ["paper"]
theorem sc_signatures_in_this_round : FnScope ["paper", "act"] p_signatures_in_this_round (defScope s_signatures_in_this_round) := ⟨rfl, rfl, rfl, by decide +kernel, rfl, by decide +kernel, by decide +kernel⟩
abbrev s_go_on : Stmt := (top 55)
abbrev p_go_on : List Str := ["office", "paper"]
theorem sc_go_on : FnScope ["office", "paper"] p_go_on (defScope s_go_on) := ⟨rfl, rfl, rfl, by decide +kernel, rfl, by decide +kernel, by decide +kernel⟩
abbrev s_go_back : Stmt := (top 56)
abbrev p_go_back : List Str := ["office", "paper"]
theorem sc_go_back : FnScope ["office", "paper", "step"] p_go_back (defScope s_go_back) := ⟨rfl, rfl, rfl, by decide +kernel, rfl, by decide +kernel, by decide +kernel⟩
abbrev s_may_act : Stmt := (top 57)
abbrev p_may_act : List Str := ["office", "by", "behalf", "number"]
theorem sc_may_act : FnScope ["office", "by", "behalf", "number"] p_may_act (defScope s_may_act) := ⟨rfl, rfl, rfl, by decide +kernel, rfl, by decide +kernel, by decide +kernel⟩
abbrev s_sign_paper : Stmt := (top 58)
abbrev p_sign_paper : List Str := ["office", "by", "behalf", "number"]
theorem sc_sign_paper : FnScope ["office", "by", "behalf", "number", "refusal", "paper"] p_sign_paper (defScope s_sign_paper) := ⟨rfl, rfl, rfl, by decide +kernel, rfl, by decide +kernel, by decide +kernel⟩
abbrev s_refuse_paper : Stmt := (top 59)
abbrev p_refuse_paper : List Str := ["office", "by", "behalf", "number"]
theorem sc_refuse_paper : FnScope ["office", "by", "behalf", "number", "refusal", "paper"] p_refuse_paper (defScope s_refuse_paper) := ⟨rfl, rfl, rfl, by decide +kernel, rfl, by decide +kernel, by decide +kernel⟩
abbrev s_withdraw_paper : Stmt := (top 60)
abbrev p_withdraw_paper : List Str := ["office", "by", "number"]
theorem sc_withdraw_paper : FnScope ["office", "by", "number", "paper"] p_withdraw_paper (defScope s_withdraw_paper) := ⟨rfl, rfl, rfl, by decide +kernel, rfl, by decide +kernel, by decide +kernel⟩
abbrev s_are_roles : Stmt := (top 64)
abbrev p_are_roles : List Str := ["number"]
theorem sc_are_roles : FnScope ["number"] p_are_roles (defScope s_are_roles) := ⟨rfl, rfl, rfl, by decide +kernel, rfl, by decide +kernel, by decide +kernel⟩
abbrev s_may_be_chief : Stmt := (top 65)
abbrev p_may_be_chief : List Str := ["office", "number"]
theorem sc_may_be_chief : FnScope ["office", "number"] p_may_be_chief (defScope s_may_be_chief) := ⟨rfl, rfl, rfl, by decide +kernel, rfl, by decide +kernel, by decide +kernel⟩
abbrev s_add_person : Stmt := (top 66)
abbrev p_add_person : List Str := ["office", "roles", "chief"]
theorem sc_add_person : FnScope ["office", "roles", "chief"] p_add_person (defScope s_add_person) := ⟨rfl, rfl, rfl, by decide +kernel, rfl, by decide +kernel, by decide +kernel⟩
abbrev s_give_roles : Stmt := (top 67)
abbrev p_give_roles : List Str := ["office", "number", "roles"]
theorem sc_give_roles : FnScope ["office", "number", "roles", "person"] p_give_roles (defScope s_give_roles) := ⟨rfl, rfl, rfl, by decide +kernel, rfl, by decide +kernel, by decide +kernel⟩
abbrev s_keep_apart : Stmt := (top 68)
abbrev p_keep_apart : List Str := ["office", "role", "other"]
theorem sc_keep_apart : FnScope ["office", "role", "other"] p_keep_apart (defScope s_keep_apart) := ⟨rfl, rfl, rfl, by decide +kernel, rfl, by decide +kernel, by decide +kernel⟩
abbrev s_step_at : Stmt := (top 75)
abbrev p_step_at : List Str := ["numbers", "first"]
theorem sc_step_at : FnScope ["numbers", "first"] p_step_at (defScope s_step_at) := ⟨rfl, rfl, rfl, by decide +kernel, rfl, by decide +kernel, by decide +kernel⟩
abbrev s_steps_of : Stmt := (top 76)
abbrev p_steps_of : List Str := ["numbers"]
theorem sc_steps_of : FnScope ["numbers", "first"] p_steps_of (defScope s_steps_of) := ⟨rfl, rfl, rfl, by decide +kernel, rfl, by decide +kernel, by decide +kernel⟩
abbrev s_is_length_of_steps : Stmt := (top 77)
abbrev p_is_length_of_steps : List Str := ["length"]
theorem sc_is_length_of_steps : FnScope ["length"] p_is_length_of_steps (defScope s_is_length_of_steps) := ⟨rfl, rfl, rfl, by decide +kernel, rfl, by decide +kernel, by decide +kernel⟩
abbrev s_may_be_step : Stmt := (top 78)
abbrev p_may_be_step : List Str := ["step", "number"]
theorem sc_may_be_step : FnScope ["step", "number"] p_may_be_step (defScope s_may_be_step) := ⟨rfl, rfl, rfl, by decide +kernel, rfl, by decide +kernel, by decide +kernel⟩
abbrev s_add_procedure : Stmt := (top 79)
abbrev p_add_procedure : List Str := ["office", "numbers"]
theorem sc_add_procedure : FnScope ["office", "numbers", "steps", "number", "step"] p_add_procedure (defScope s_add_procedure) := ⟨rfl, rfl, rfl, by decide +kernel, rfl, by decide +kernel, by decide +kernel⟩
abbrev s_with_count : Stmt := (top 81)
abbrev p_with_count : List Str := ["numbers"]
theorem sc_with_count : FnScope ["numbers"] p_with_count (defScope s_with_count) := ⟨rfl, rfl, rfl, by decide +kernel, rfl, by decide +kernel, by decide +kernel⟩
abbrev s_may_act_for_themselves : Stmt := (top 82)
abbrev p_may_act_for_themselves : List Str := ["office", "number", "paper"]
theorem sc_may_act_for_themselves : FnScope ["office", "number", "paper"] p_may_act_for_themselves (defScope s_may_act_for_themselves) := ⟨rfl, rfl, rfl, by decide +kernel, rfl, by decide +kernel, by decide +kernel⟩
abbrev s_tell_paper : Stmt := (top 83)
abbrev p_tell_paper : List Str := ["office", "number"]
theorem sc_tell_paper : FnScope ["office", "number", "paper", "place"] p_tell_paper (defScope s_tell_paper) := ⟨rfl, rfl, rfl, by decide +kernel, rfl, by decide +kernel, by decide +kernel⟩
abbrev s_tell_acts : Stmt := (top 84)
abbrev p_tell_acts : List Str := ["office", "number"]
theorem sc_tell_acts : FnScope ["office", "number", "paper", "told", "act"] p_tell_acts (defScope s_tell_acts) := ⟨rfl, rfl, rfl, by decide +kernel, rfl, by decide +kernel, by decide +kernel⟩
abbrev s_tell_who : Stmt := (top 85)
abbrev p_tell_who : List Str := ["office", "number"]
theorem sc_tell_who : FnScope ["office", "number", "paper", "each"] p_tell_who (defScope s_tell_who) := ⟨rfl, rfl, rfl, by decide +kernel, rfl, by decide +kernel, by decide +kernel⟩
abbrev s_tell_waiting : Stmt := (top 86)
abbrev p_tell_waiting : List Str := ["office", "number"]
theorem sc_tell_waiting : FnScope ["office", "number", "waiting", "each", "paper"] p_tell_waiting (defScope s_tell_waiting) := ⟨rfl, rfl, rfl, by decide +kernel, rfl, by decide +kernel, by decide +kernel⟩
abbrev s_answer_of_act : Stmt := (top 104)
abbrev p_answer_of_act : List Str := ["office", "call", "given"]
theorem sc_answer_of_act : FnScope ["office", "call", "given"] p_answer_of_act (defScope s_answer_of_act) := ⟨rfl, rfl, rfl, by decide +kernel, rfl, by decide +kernel, by decide +kernel⟩
abbrev s_answer_of_question : Stmt := (top 105)
abbrev p_answer_of_question : List Str := ["office", "call", "number"]
theorem sc_answer_of_question : FnScope ["office", "call", "number"] p_answer_of_question (defScope s_answer_of_question) := ⟨rfl, rfl, rfl, by decide +kernel, rfl, by decide +kernel, by decide +kernel⟩
abbrev s_answer_of_order : Stmt := (top 106)
abbrev p_answer_of_order : List Str := ["office", "call", "given"]
theorem sc_answer_of_order : FnScope ["office", "call", "given"] p_answer_of_order (defScope s_answer_of_order) := ⟨rfl, rfl, rfl, by decide +kernel, rfl, by decide +kernel, by decide +kernel⟩
abbrev s_answer_of : Stmt := (top 107)
abbrev p_answer_of : List Str := ["office", "call", "given"]
theorem sc_answer_of : FnScope ["office", "call", "given"] p_answer_of (defScope s_answer_of) := ⟨rfl, rfl, rfl, by decide +kernel, rfl, by decide +kernel, by decide +kernel⟩
abbrev s_begin_of_numbers : Stmt := (top 108)
abbrev p_begin_of_numbers : List Str := ["calls", "at"]
theorem sc_begin_of_numbers : FnScope ["calls", "at"] p_begin_of_numbers (defScope s_begin_of_numbers) := ⟨rfl, rfl, rfl, by decide +kernel, rfl, by decide +kernel, by decide +kernel⟩
abbrev s_end_of_numbers : Stmt := (top 109)
abbrev p_end_of_numbers : List Str := ["calls", "at"]
theorem sc_end_of_numbers : FnScope ["calls", "at"] p_end_of_numbers (defScope s_end_of_numbers) := ⟨rfl, rfl, rfl, by decide +kernel, rfl, by decide +kernel, by decide +kernel⟩
abbrev s_answers : Stmt := (top 110)
abbrev p_answers : List Str := ["calls"]
theorem sc_answers : FnScope ["calls", "office", "told", "at", "end", "answer"] p_answers (defScope s_answers) := ⟨rfl, rfl, rfl, by decide +kernel, rfl, by decide +kernel, by decide +kernel⟩
abbrev s_Person : Stmt := (inClass (top 9) 0)
abbrev p_Person : List Str := ["self", "roles", "chief"]
theorem sc_Person : FnScope ["self", "roles", "chief"] p_Person (defScope s_Person) := ⟨rfl, rfl, rfl, by decide +kernel, rfl, by decide +kernel, by decide +kernel⟩
abbrev s_Step : Stmt := (inClass (top 10) 0)
abbrev p_Step : List Str := ["self", "role", "signatures", "days", "writer_may_sign", "goes_back_to"]
theorem sc_Step : FnScope ["self", "role", "signatures", "days", "writer_may_sign", "goes_back_to"] p_Step (defScope s_Step) := ⟨rfl, rfl, rfl, by decide +kernel, rfl, by decide +kernel, by decide +kernel⟩
abbrev s_Act : Stmt := (inClass (top 11) 0)
abbrev p_Act : List Str := ["self", "step", "turn", "by", "behalf", "signed"]
theorem sc_Act : FnScope ["self", "step", "turn", "by", "behalf", "signed"] p_Act (defScope s_Act) := ⟨rfl, rfl, rfl, by decide +kernel, rfl, by decide +kernel, by decide +kernel⟩
abbrev s_Paper : Stmt := (inClass (top 12) 0)
abbrev p_Paper : List Str := ["self", "writer", "procedure"]
theorem sc_Paper : FnScope ["self", "writer", "procedure"] p_Paper (defScope s_Paper) := ⟨rfl, rfl, rfl, by decide +kernel, rfl, by decide +kernel, by decide +kernel⟩
abbrev s_Office : Stmt := (inClass (top 13) 0)
abbrev p_Office : List Str := ["self"]
theorem sc_Office : FnScope ["self"] p_Office (defScope s_Office) := ⟨rfl, rfl, rfl, by decide +kernel, rfl, by decide +kernel, by decide +kernel⟩
structure Txt (K : PySem.W.Frag) (mg : Str → Option Value) (C_Person C_Step C_Act C_Paper C_Office : Addr) : Prop where
  k_Person : Cls K C_Person
  n_Person_roles : NoAttr K C_Person "roles"
  n_Person_chief : NoAttr K C_Person "chief"
  n_Person_stand_in : NoAttr K C_Person "stand_in"
  n_Person_stand_in_until : NoAttr K C_Person "stand_in_until"
  k_Step : Cls K C_Step
  n_Step_role : NoAttr K C_Step "role"
  n_Step_signatures : NoAttr K C_Step "signatures"
  n_Step_days : NoAttr K C_Step "days"
  n_Step_writer_may_sign : NoAttr K C_Step "writer_may_sign"
  n_Step_goes_back_to : NoAttr K C_Step "goes_back_to"
  k_Act : Cls K C_Act
  n_Act_step : NoAttr K C_Act "step"
  n_Act_turn : NoAttr K C_Act "turn"
  n_Act_by : NoAttr K C_Act "by"
  n_Act_behalf : NoAttr K C_Act "behalf"
  n_Act_signed : NoAttr K C_Act "signed"
  k_Paper : Cls K C_Paper
  n_Paper_writer : NoAttr K C_Paper "writer"
  n_Paper_procedure : NoAttr K C_Paper "procedure"
  n_Paper_state : NoAttr K C_Paper "state"
  n_Paper_step : NoAttr K C_Paper "step"
  n_Paper_turn : NoAttr K C_Paper "turn"
  n_Paper_level : NoAttr K C_Paper "level"
  n_Paper_due : NoAttr K C_Paper "due"
  n_Paper_acts : NoAttr K C_Paper "acts"
  k_Office : Cls K C_Office
  n_Office_today : NoAttr K C_Office "today"
  n_Office_people : NoAttr K C_Office "people"
  n_Office_kept_apart : NoAttr K C_Office "kept_apart"
  n_Office_procedures : NoAttr K C_Office "procedures"
  n_Office_papers : NoAttr K C_Office "papers"
  c_NOBODY : Cst mg "NOBODY" (-1)
  c_NOWHERE : Cst mg "NOWHERE" (-1)
  c_LAST_ROLE : Cst mg "LAST_ROLE" (15)
  c_UNDER_WAY : Cst mg "UNDER_WAY" (0)
  c_APPROVED : Cst mg "APPROVED" (1)
  c_REFUSED : Cst mg "REFUSED" (2)
  c_WITHDRAWN : Cst mg "WITHDRAWN" (3)
  c_LAPSED : Cst mg "LAPSED" (4)
  c_NOT_ONE_THAT_MAY_BE : Cst mg "NOT_ONE_THAT_MAY_BE" (-2)
  c_TOO_LATE : Cst mg "TOO_LATE" (-3)
  c_NOT_STANDING_IN : Cst mg "NOT_STANDING_IN" (-4)
  c_NOT_ENTITLED : Cst mg "NOT_ENTITLED" (-5)
  c_WRITER_MAY_NOT : Cst mg "WRITER_MAY_NOT" (-6)
  c_NOT_THE_WRITER : Cst mg "NOT_THE_WRITER" (-6)
  c_ACTED_IN_THIS_ROUND : Cst mg "ACTED_IN_THIS_ROUND" (-7)
  c_FULL : Cst mg "FULL" (-8)
  c_ACTED_IN_A_ROLE_KEPT_APART : Cst mg "ACTED_IN_A_ROLE_KEPT_APART" (-9)
  c_MOST_DAYS_ON : Cst mg "MOST_DAYS_ON" (1000)
  c_MOST_DAYS_IN_ONE_CALL : Cst mg "MOST_DAYS_IN_ONE_CALL" (30)
  c_HIGHEST_LEVEL : Cst mg "HIGHEST_LEVEL" (5)
  c_MOST_PAPERS : Cst mg "MOST_PAPERS" (256)
  c_LAST_ROUND : Cst mg "LAST_ROUND" (10)
  c_MOST_PEOPLE : Cst mg "MOST_PEOPLE" (32)
  c_ALL_ROLES : Cst mg "ALL_ROLES" (65535)
  c_MOST_PROCEDURES : Cst mg "MOST_PROCEDURES" (16)
  c_MOST_STEPS : Cst mg "MOST_STEPS" (16)
  c_NUMBERS_OF_A_STEP : Cst mg "NUMBERS_OF_A_STEP" (5)
  c_MOST_SIGNATURES : Cst mg "MOST_SIGNATURES" (3)
  c_MOST_DAYS : Cst mg "MOST_DAYS" (30)
  c_PERSON : Cst mg "PERSON" (1)
  c_ROLES : Cst mg "ROLES" (2)
  c_APART : Cst mg "APART" (3)
  c_PROCEDURE : Cst mg "PROCEDURE" (4)
  c_FILE : Cst mg "FILE" (5)
  c_SIGN : Cst mg "SIGN" (6)
  c_REFUSE : Cst mg "REFUSE" (7)
  c_MAY : Cst mg "MAY" (8)
  c_WITHDRAW : Cst mg "WITHDRAW" (9)
  c_AWAY : Cst mg "AWAY" (10)
  c_BACK : Cst mg "BACK" (11)
  c_TELL : Cst mg "TELL" (13)
  c_ACTS : Cst mg "ACTS" (14)
  c_WHO : Cst mg "WHO" (15)
  c_WAITING : Cst mg "WAITING" (16)
  b_len : mg "len" = none
  b_sum : mg "sum" = none
  b_all : mg "all" = none
  b_range : mg "range" = none
  b_enumerate : mg "enumerate" = none
/-- a def that may be called by its name -/
structure Cal (P : Program) (w : World) (K : PySem.W.Frag) (mg : Str → Option Value) (base : Heap) (k : Nat) (x : Str) (ps : List Str) (sp : Sp) : Prop where
  ex : ∃ (f : Addr) (fd : FuncData), FnOk P w K mg base CX0 k f fd ps sp ∧ mg x = some (.ref f) ∧ PySem.W.keepIn K (.ref f) = true ∧ Binds K fd ps []
/-- a class that may be made by its name -/
structure Mak (P : Program) (w : World) (K : PySem.W.Frag) (mg : Str → Option Value) (base : Heap) (k : Nat) (x : Str) (C : Addr) (ps : List Str) (sp : Sp) : Prop where
  ex : ∃ (f : Addr) (fd : FuncData), Mk K C f ∧ FnOk P w K mg base CX0 k f fd ps sp ∧ mg x = some (.ref C) ∧ Binds K fd ps []
section
variable {X : Cx} {k : Nat} {x : Str} {C : Addr} {ps : List Str} {sp : Sp} {e : Expr} {es : List Expr} {t : TA} {p pos : Pos}
theorem pe_callC (c : Cal X.prog X.w X.K X.mg X.base k x ps sp) (hr : Room k X.A) (hg : Gl X x) (ha : PA X (e :: es) t) (hdb : (x == ("__debug__" : Str)) = false := by decide)
    (he : starEach (e :: es) X.env = (false, eval e X.env) :: starEach es X.env := by rfl) (hpl : (backTo pos (starEach es X.env)).any (·.1) = false := by rfl) : PE X (.Call (.Name x p) (e :: es) [] pos) (tCall sp [] E0 t) := by
  obtain ⟨f, fd, F, hm, hk, hb⟩ := c.ex
  exact pe_call F hr hg hm hk hb .nil pass0 ha hdb he hpl
theorem pe_makeC (c : Mak X.prog X.w X.K X.mg X.base k x C ps sp) (hr : Room (k + 1) X.A) (hg : Gl X x) (ha : PA X (e :: es) t) (hdb : (x == ("__debug__" : Str)) = false := by decide)
    (he : starEach (e :: es) X.env = (false, eval e X.env) :: starEach es X.env := by rfl) (hpl : (backTo pos (starEach es X.env)).any (·.1) = false := by rfl) : PE X (.Call (.Name x p) (e :: es) [] pos) (tMake C sp [] E0 t) := by
  obtain ⟨f, fd, M, F, hm, hb⟩ := c.ex
  exact pe_make M F hr hg hm hb .nil pass0 ha hdb he hpl
theorem pe_makeC0 (c : Mak X.prog X.w X.K X.mg X.base k x C ps sp) (hr : Room (k + 1) X.A) (hg : Gl X x) (hdb : (x == ("__debug__" : Str)) = false := by decide) : PE X (.Call (.Name x p) [] [] pos) (tMake C sp [] E0 tNil) := by
  obtain ⟨f, fd, M, F, hm, hb⟩ := c.ex
  exact pe_make0 M F hr hg hm hb .nil pass0 hdb
end
/-- within a comprehension -/
theorem pe_fldK {X : Cx} {K : PySem.W.Frag} {e : Expr} {ta : TE} {g : Str} {pos : Pos} (hK : X.K = K) (he : PE X e ta) (hb : attributeBase e g X.env (eval e X.env) = eval e X.env) : PE X (.Attribute e g pos) (tFld K ta g) := by
  subst hK
  exact pe_fld he hb
theorem pg_tupK {X : Cx} {K : PySem.W.Frag} {es : List Expr} {k : Nat} {t : TGs} {n : Nat} {pos : Pos} (hK : X.K = K) (hc : X.calm = true) (h : PGs X es t)
    (hn : (assignEach es X.env).length = n := by rfl) (hst : (assignEach es X.env).findIdx? (·.1) = none := by rfl) : PG X (.Tuple es k pos) (gTup K n t) := by
  subst hK
  exact pg_tup hc h hn hst
/-! ### fields -/
def Fld (K : PySem.W.Frag) (H : Hp) (a : Addr) (f : Str) (v : V) : Prop := ∃ C dx fs, H a = some (.ins C dx fs) ∧ Cls K C ∧ NoAttr K C f ∧ fs.lookup f = some v
section
variable {K : PySem.W.Frag} {H : Hp} {a : Addr} {f : Str} {v : V} {Q : VK}
theorem Fld.rd (h : Fld K H a f v) (q : Q v H) : ∃ a' C dx fs v', V.ref a = .ref a' ∧ H a' = some (.ins C dx fs) ∧ Cls K C ∧ NoAttr K C f ∧ fs.lookup f = some v' ∧ Q v' H := by
  obtain ⟨C, dx, fs, h1, h2, h3, h4⟩ := h
  exact ⟨a, C, dx, fs, v, rfl, h1, h2, h3, h4, q⟩
end
section
variable {K : PySem.W.Frag} {mg : Str → Option Value} {C : Cl} {H : Hp} {a dx : Addr} {z : Int} {σ : St} {N : St → Hp → Prop}
theorem Txt.P_roles (T : Txt K mg C.P C.S C.A C.X C.O) {p : Per} (h : H a = some (.ins C.P dx (perF p))) : Fld K H a "roles" (.int p.roles) := ⟨C.P, dx, _, h, T.k_Person, T.n_Person_roles, by rfl⟩
theorem l_P_roles {p : Per} : (perF p).lookup ("roles" : Str) = some (.int p.roles) := by rfl
theorem Txt.wP_roles (T : Txt K mg C.P C.S C.A C.X C.O) {p : Per} (h : H a = some (.ins C.P dx (perF p))) (q : N σ (upd H a (.ins C.P dx (perF { p with roles := z })))) : ∃ a' C' dx' fs, V.ref a = .ref a' ∧ H a' = some (.ins C' dx' fs) ∧ Cls K C' ∧ NoAttr K C' "roles" ∧ fs.length < 1000 ∧ N σ (upd H a' (.ins C' dx' (putF "roles" (.int z) fs))) := ⟨a, C.P, dx, _, rfl, h, T.k_Person, T.n_Person_roles, (by show 4 < 1000; decide), q⟩
theorem Txt.P_chief (T : Txt K mg C.P C.S C.A C.X C.O) {p : Per} (h : H a = some (.ins C.P dx (perF p))) : Fld K H a "chief" (.int p.chief) := ⟨C.P, dx, _, h, T.k_Person, T.n_Person_chief, by rfl⟩
theorem l_P_chief {p : Per} : (perF p).lookup ("chief" : Str) = some (.int p.chief) := by rfl
theorem Txt.wP_chief (T : Txt K mg C.P C.S C.A C.X C.O) {p : Per} (h : H a = some (.ins C.P dx (perF p))) (q : N σ (upd H a (.ins C.P dx (perF { p with chief := z })))) : ∃ a' C' dx' fs, V.ref a = .ref a' ∧ H a' = some (.ins C' dx' fs) ∧ Cls K C' ∧ NoAttr K C' "chief" ∧ fs.length < 1000 ∧ N σ (upd H a' (.ins C' dx' (putF "chief" (.int z) fs))) := ⟨a, C.P, dx, _, rfl, h, T.k_Person, T.n_Person_chief, (by show 4 < 1000; decide), q⟩
theorem Txt.P_stand_in (T : Txt K mg C.P C.S C.A C.X C.O) {p : Per} (h : H a = some (.ins C.P dx (perF p))) : Fld K H a "stand_in" (.int p.sin) := ⟨C.P, dx, _, h, T.k_Person, T.n_Person_stand_in, by rfl⟩
theorem l_P_stand_in {p : Per} : (perF p).lookup ("stand_in" : Str) = some (.int p.sin) := by rfl
theorem Txt.wP_stand_in (T : Txt K mg C.P C.S C.A C.X C.O) {p : Per} (h : H a = some (.ins C.P dx (perF p))) (q : N σ (upd H a (.ins C.P dx (perF { p with sin := z })))) : ∃ a' C' dx' fs, V.ref a = .ref a' ∧ H a' = some (.ins C' dx' fs) ∧ Cls K C' ∧ NoAttr K C' "stand_in" ∧ fs.length < 1000 ∧ N σ (upd H a' (.ins C' dx' (putF "stand_in" (.int z) fs))) := ⟨a, C.P, dx, _, rfl, h, T.k_Person, T.n_Person_stand_in, (by show 4 < 1000; decide), q⟩
theorem Txt.P_stand_in_until (T : Txt K mg C.P C.S C.A C.X C.O) {p : Per} (h : H a = some (.ins C.P dx (perF p))) : Fld K H a "stand_in_until" (.int p.till) := ⟨C.P, dx, _, h, T.k_Person, T.n_Person_stand_in_until, by rfl⟩
theorem l_P_stand_in_until {p : Per} : (perF p).lookup ("stand_in_until" : Str) = some (.int p.till) := by rfl
theorem Txt.wP_stand_in_until (T : Txt K mg C.P C.S C.A C.X C.O) {p : Per} (h : H a = some (.ins C.P dx (perF p))) (q : N σ (upd H a (.ins C.P dx (perF { p with till := z })))) : ∃ a' C' dx' fs, V.ref a = .ref a' ∧ H a' = some (.ins C' dx' fs) ∧ Cls K C' ∧ NoAttr K C' "stand_in_until" ∧ fs.length < 1000 ∧ N σ (upd H a' (.ins C' dx' (putF "stand_in_until" (.int z) fs))) := ⟨a, C.P, dx, _, rfl, h, T.k_Person, T.n_Person_stand_in_until, (by show 4 < 1000; decide), q⟩
theorem Txt.S_role (T : Txt K mg C.P C.S C.A C.X C.O) {s : Stp} (h : H a = some (.ins C.S dx (stpF s))) : Fld K H a "role" (.int s.role) := ⟨C.S, dx, _, h, T.k_Step, T.n_Step_role, by rfl⟩
theorem l_S_role {s : Stp} : (stpF s).lookup ("role" : Str) = some (.int s.role) := by rfl
theorem Txt.S_signatures (T : Txt K mg C.P C.S C.A C.X C.O) {s : Stp} (h : H a = some (.ins C.S dx (stpF s))) : Fld K H a "signatures" (.int s.sig) := ⟨C.S, dx, _, h, T.k_Step, T.n_Step_signatures, by rfl⟩
theorem l_S_signatures {s : Stp} : (stpF s).lookup ("signatures" : Str) = some (.int s.sig) := by rfl
theorem Txt.S_days (T : Txt K mg C.P C.S C.A C.X C.O) {s : Stp} (h : H a = some (.ins C.S dx (stpF s))) : Fld K H a "days" (.int s.days) := ⟨C.S, dx, _, h, T.k_Step, T.n_Step_days, by rfl⟩
theorem l_S_days {s : Stp} : (stpF s).lookup ("days" : Str) = some (.int s.days) := by rfl
theorem Txt.S_writer_may_sign (T : Txt K mg C.P C.S C.A C.X C.O) {s : Stp} (h : H a = some (.ins C.S dx (stpF s))) : Fld K H a "writer_may_sign" (.int s.own) := ⟨C.S, dx, _, h, T.k_Step, T.n_Step_writer_may_sign, by rfl⟩
theorem l_S_writer_may_sign {s : Stp} : (stpF s).lookup ("writer_may_sign" : Str) = some (.int s.own) := by rfl
theorem Txt.S_goes_back_to (T : Txt K mg C.P C.S C.A C.X C.O) {s : Stp} (h : H a = some (.ins C.S dx (stpF s))) : Fld K H a "goes_back_to" (.int s.back) := ⟨C.S, dx, _, h, T.k_Step, T.n_Step_goes_back_to, by rfl⟩
theorem l_S_goes_back_to {s : Stp} : (stpF s).lookup ("goes_back_to" : Str) = some (.int s.back) := by rfl
theorem Txt.A_step (T : Txt K mg C.P C.S C.A C.X C.O) {c : Ac} (h : H a = some (.ins C.A dx (actF c))) : Fld K H a "step" (.int c.step) := ⟨C.A, dx, _, h, T.k_Act, T.n_Act_step, by rfl⟩
theorem l_A_step {c : Ac} : (actF c).lookup ("step" : Str) = some (.int c.step) := by rfl
theorem Txt.A_turn (T : Txt K mg C.P C.S C.A C.X C.O) {c : Ac} (h : H a = some (.ins C.A dx (actF c))) : Fld K H a "turn" (.int c.turn) := ⟨C.A, dx, _, h, T.k_Act, T.n_Act_turn, by rfl⟩
theorem l_A_turn {c : Ac} : (actF c).lookup ("turn" : Str) = some (.int c.turn) := by rfl
theorem Txt.A_by (T : Txt K mg C.P C.S C.A C.X C.O) {c : Ac} (h : H a = some (.ins C.A dx (actF c))) : Fld K H a "by" (.int c.by_) := ⟨C.A, dx, _, h, T.k_Act, T.n_Act_by, by rfl⟩
theorem l_A_by {c : Ac} : (actF c).lookup ("by" : Str) = some (.int c.by_) := by rfl
theorem Txt.A_behalf (T : Txt K mg C.P C.S C.A C.X C.O) {c : Ac} (h : H a = some (.ins C.A dx (actF c))) : Fld K H a "behalf" (.int c.for_) := ⟨C.A, dx, _, h, T.k_Act, T.n_Act_behalf, by rfl⟩
theorem l_A_behalf {c : Ac} : (actF c).lookup ("behalf" : Str) = some (.int c.for_) := by rfl
theorem Txt.A_signed (T : Txt K mg C.P C.S C.A C.X C.O) {c : Ac} (h : H a = some (.ins C.A dx (actF c))) : Fld K H a "signed" (.int c.signed) := ⟨C.A, dx, _, h, T.k_Act, T.n_Act_signed, by rfl⟩
theorem l_A_signed {c : Ac} : (actF c).lookup ("signed" : Str) = some (.int c.signed) := by rfl
theorem Txt.X_writer (T : Txt K mg C.P C.S C.A C.X C.O) {l : Addr} {x : Pap} (h : H a = some (.ins C.X dx (papF l x))) : Fld K H a "writer" (.int x.writer) := ⟨C.X, dx, _, h, T.k_Paper, T.n_Paper_writer, by rfl⟩
theorem l_X_writer {l : Addr} {x : Pap} : (papF l x).lookup ("writer" : Str) = some (.int x.writer) := by rfl
theorem Txt.X_procedure (T : Txt K mg C.P C.S C.A C.X C.O) {l : Addr} {x : Pap} (h : H a = some (.ins C.X dx (papF l x))) : Fld K H a "procedure" (.int x.proc) := ⟨C.X, dx, _, h, T.k_Paper, T.n_Paper_procedure, by rfl⟩
theorem l_X_procedure {l : Addr} {x : Pap} : (papF l x).lookup ("procedure" : Str) = some (.int x.proc) := by rfl
theorem Txt.X_state (T : Txt K mg C.P C.S C.A C.X C.O) {l : Addr} {x : Pap} (h : H a = some (.ins C.X dx (papF l x))) : Fld K H a "state" (.int x.state) := ⟨C.X, dx, _, h, T.k_Paper, T.n_Paper_state, by rfl⟩
theorem l_X_state {l : Addr} {x : Pap} : (papF l x).lookup ("state" : Str) = some (.int x.state) := by rfl
theorem Txt.wX_state (T : Txt K mg C.P C.S C.A C.X C.O) {l : Addr} {x : Pap} (h : H a = some (.ins C.X dx (papF l x))) (q : N σ (upd H a (.ins C.X dx (papF l { x with state := z })))) : ∃ a' C' dx' fs, V.ref a = .ref a' ∧ H a' = some (.ins C' dx' fs) ∧ Cls K C' ∧ NoAttr K C' "state" ∧ fs.length < 1000 ∧ N σ (upd H a' (.ins C' dx' (putF "state" (.int z) fs))) := ⟨a, C.X, dx, _, rfl, h, T.k_Paper, T.n_Paper_state, (by show 8 < 1000; decide), q⟩
theorem Txt.X_step (T : Txt K mg C.P C.S C.A C.X C.O) {l : Addr} {x : Pap} (h : H a = some (.ins C.X dx (papF l x))) : Fld K H a "step" (.int x.step) := ⟨C.X, dx, _, h, T.k_Paper, T.n_Paper_step, by rfl⟩
theorem l_X_step {l : Addr} {x : Pap} : (papF l x).lookup ("step" : Str) = some (.int x.step) := by rfl
theorem Txt.wX_step (T : Txt K mg C.P C.S C.A C.X C.O) {l : Addr} {x : Pap} (h : H a = some (.ins C.X dx (papF l x))) (q : N σ (upd H a (.ins C.X dx (papF l { x with step := z })))) : ∃ a' C' dx' fs, V.ref a = .ref a' ∧ H a' = some (.ins C' dx' fs) ∧ Cls K C' ∧ NoAttr K C' "step" ∧ fs.length < 1000 ∧ N σ (upd H a' (.ins C' dx' (putF "step" (.int z) fs))) := ⟨a, C.X, dx, _, rfl, h, T.k_Paper, T.n_Paper_step, (by show 8 < 1000; decide), q⟩
theorem Txt.X_turn (T : Txt K mg C.P C.S C.A C.X C.O) {l : Addr} {x : Pap} (h : H a = some (.ins C.X dx (papF l x))) : Fld K H a "turn" (.int x.turn) := ⟨C.X, dx, _, h, T.k_Paper, T.n_Paper_turn, by rfl⟩
theorem l_X_turn {l : Addr} {x : Pap} : (papF l x).lookup ("turn" : Str) = some (.int x.turn) := by rfl
theorem Txt.wX_turn (T : Txt K mg C.P C.S C.A C.X C.O) {l : Addr} {x : Pap} (h : H a = some (.ins C.X dx (papF l x))) (q : N σ (upd H a (.ins C.X dx (papF l { x with turn := z })))) : ∃ a' C' dx' fs, V.ref a = .ref a' ∧ H a' = some (.ins C' dx' fs) ∧ Cls K C' ∧ NoAttr K C' "turn" ∧ fs.length < 1000 ∧ N σ (upd H a' (.ins C' dx' (putF "turn" (.int z) fs))) := ⟨a, C.X, dx, _, rfl, h, T.k_Paper, T.n_Paper_turn, (by show 8 < 1000; decide), q⟩
theorem Txt.X_level (T : Txt K mg C.P C.S C.A C.X C.O) {l : Addr} {x : Pap} (h : H a = some (.ins C.X dx (papF l x))) : Fld K H a "level" (.int x.level) := ⟨C.X, dx, _, h, T.k_Paper, T.n_Paper_level, by rfl⟩
theorem l_X_level {l : Addr} {x : Pap} : (papF l x).lookup ("level" : Str) = some (.int x.level) := by rfl
theorem Txt.wX_level (T : Txt K mg C.P C.S C.A C.X C.O) {l : Addr} {x : Pap} (h : H a = some (.ins C.X dx (papF l x))) (q : N σ (upd H a (.ins C.X dx (papF l { x with level := z })))) : ∃ a' C' dx' fs, V.ref a = .ref a' ∧ H a' = some (.ins C' dx' fs) ∧ Cls K C' ∧ NoAttr K C' "level" ∧ fs.length < 1000 ∧ N σ (upd H a' (.ins C' dx' (putF "level" (.int z) fs))) := ⟨a, C.X, dx, _, rfl, h, T.k_Paper, T.n_Paper_level, (by show 8 < 1000; decide), q⟩
theorem Txt.X_due (T : Txt K mg C.P C.S C.A C.X C.O) {l : Addr} {x : Pap} (h : H a = some (.ins C.X dx (papF l x))) : Fld K H a "due" (.int x.due) := ⟨C.X, dx, _, h, T.k_Paper, T.n_Paper_due, by rfl⟩
theorem l_X_due {l : Addr} {x : Pap} : (papF l x).lookup ("due" : Str) = some (.int x.due) := by rfl
theorem Txt.wX_due (T : Txt K mg C.P C.S C.A C.X C.O) {l : Addr} {x : Pap} (h : H a = some (.ins C.X dx (papF l x))) (q : N σ (upd H a (.ins C.X dx (papF l { x with due := z })))) : ∃ a' C' dx' fs, V.ref a = .ref a' ∧ H a' = some (.ins C' dx' fs) ∧ Cls K C' ∧ NoAttr K C' "due" ∧ fs.length < 1000 ∧ N σ (upd H a' (.ins C' dx' (putF "due" (.int z) fs))) := ⟨a, C.X, dx, _, rfl, h, T.k_Paper, T.n_Paper_due, (by show 8 < 1000; decide), q⟩
theorem Txt.X_acts (T : Txt K mg C.P C.S C.A C.X C.O) {l : Addr} {x : Pap} (h : H a = some (.ins C.X dx (papF l x))) : Fld K H a "acts" (.ref l) := ⟨C.X, dx, _, h, T.k_Paper, T.n_Paper_acts, by rfl⟩
theorem l_X_acts {l : Addr} {x : Pap} : (papF l x).lookup ("acts" : Str) = some (.ref l) := by rfl
theorem Txt.O_today (T : Txt K mg C.P C.S C.A C.X C.O) {L : Lay} {m : Off} (h : H a = some (.ins C.O dx (offF L m))) : Fld K H a "today" (.int m.today) := ⟨C.O, dx, _, h, T.k_Office, T.n_Office_today, by rfl⟩
theorem l_O_today {L : Lay} {m : Off} : (offF L m).lookup ("today" : Str) = some (.int m.today) := by rfl
theorem Txt.wO_today (T : Txt K mg C.P C.S C.A C.X C.O) {L : Lay} {m : Off} (h : H a = some (.ins C.O dx (offF L m))) (q : N σ (upd H a (.ins C.O dx (offF L { m with today := z })))) : ∃ a' C' dx' fs, V.ref a = .ref a' ∧ H a' = some (.ins C' dx' fs) ∧ Cls K C' ∧ NoAttr K C' "today" ∧ fs.length < 1000 ∧ N σ (upd H a' (.ins C' dx' (putF "today" (.int z) fs))) := ⟨a, C.O, dx, _, rfl, h, T.k_Office, T.n_Office_today, (by show 5 < 1000; decide), q⟩
theorem Txt.O_people (T : Txt K mg C.P C.S C.A C.X C.O) {L : Lay} {m : Off} (h : H a = some (.ins C.O dx (offF L m))) : Fld K H a "people" (.ref (L.ad .ppl)) := ⟨C.O, dx, _, h, T.k_Office, T.n_Office_people, by rfl⟩
theorem l_O_people {L : Lay} {m : Off} : (offF L m).lookup ("people" : Str) = some (.ref (L.ad .ppl)) := by rfl
theorem Txt.O_kept_apart (T : Txt K mg C.P C.S C.A C.X C.O) {L : Lay} {m : Off} (h : H a = some (.ins C.O dx (offF L m))) : Fld K H a "kept_apart" (.ref (L.ad .kd)) := ⟨C.O, dx, _, h, T.k_Office, T.n_Office_kept_apart, by rfl⟩
theorem l_O_kept_apart {L : Lay} {m : Off} : (offF L m).lookup ("kept_apart" : Str) = some (.ref (L.ad .kd)) := by rfl
theorem Txt.O_procedures (T : Txt K mg C.P C.S C.A C.X C.O) {L : Lay} {m : Off} (h : H a = some (.ins C.O dx (offF L m))) : Fld K H a "procedures" (.ref (L.ad .prl)) := ⟨C.O, dx, _, h, T.k_Office, T.n_Office_procedures, by rfl⟩
theorem l_O_procedures {L : Lay} {m : Off} : (offF L m).lookup ("procedures" : Str) = some (.ref (L.ad .prl)) := by rfl
theorem Txt.O_papers (T : Txt K mg C.P C.S C.A C.X C.O) {L : Lay} {m : Off} (h : H a = some (.ins C.O dx (offF L m))) : Fld K H a "papers" (.ref (L.ad .pal)) := ⟨C.O, dx, _, h, T.k_Office, T.n_Office_papers, by rfl⟩
theorem l_O_papers {L : Lay} {m : Off} : (offF L m).lookup ("papers" : Str) = some (.ref (L.ad .pal)) := by rfl
end
/-! ### lists -/
section
variable {K : PySem.W.Frag} {H : Hp} {p : Addr} {xs : List V} {z : Int} {v : V} {Q : VK}
theorem rd_ix (h : SqL K H p xs) {j : Nat} (e : z = (j : Int)) (hv : xs[j]? = some v) (q : Q v H) : rIxL K (.ref p) (.int z) H Q := ⟨p, xs, z, v, rfl, rfl, h, at_of e hv, q⟩
end
theorem has_at {n : Nat} {z : Int} (h : has n z = true) : z = ((z.toNat : Nat) : Int) ∧ z.toNat < n := by have := has_iff.mp h; omega
theorem has_pap {m : Off} {k : Int} (h : has m.papers.length k = true) : m.papers[k.toNat]? = some (pap m k) := some_getD _ (has_at h).2
theorem has_per {m : Off} {k : Int} (h : has m.people.length k = true) : m.people[k.toNat]? = some (per m k) := some_getD _ (has_at h).2
section
variable {K : PySem.W.Frag} {C : Cl} {L : Lay} {H : Hp} {m : Off} {z : Int} {Q : VK}
theorem Rep.ixPer (R : Rep C L H m) (h : has m.people.length z = true) (q : Q (.ref (L.ad (.per z.toNat))) H) : rIxL K (.ref (L.ad .ppl)) (.int z) H Q := rd_ix (SqL.of R.ppl) (has_at h).1 (refs_at (has_at h).2) q
theorem Rep.ixPap (R : Rep C L H m) (h : has m.papers.length z = true) (q : Q (.ref (L.ad (.pap z.toNat))) H) : rIxL K (.ref (L.ad .pal)) (.int z) H Q := rd_ix (SqL.of R.pal) (has_at h).1 (refs_at (has_at h).2) q
end
/-! ### tests -/
theorem decV {i j : Int} : decide (V.int i = V.int j) = decide (i = j) := by
  by_cases z : i = j
  · rw [z]; simp
  · rw [decide_eq_false z, decide_eq_false fun q => z (V.int.inj q)]
theorem andB {a b : Bool} {Q : VK} {H : Hp} {T : Prop} (k : Q (.bl (a && b)) H) (h : a = true → Q (.bl b) H → T) : if a = true then T else Q (.bl false) H := by
  cases a with
  | true => rw [if_pos rfl]; exact h rfl k
  | false => rw [if_neg Bool.false_ne_true]; exact k
theorem andV {i j : Int} {b : Bool} {Q : VK} {H : Hp} {T : Prop} (k : Q (.bl (decide (i = j) && b)) H) (h : i = j → Q (.bl b) H → T) : if decide (V.int i = V.int j) = true then T else Q (.bl false) H := by
  rw [decV]
  exact andB k fun e q => h (of_decide_eq_true e) q
theorem orB {a b : Bool} {Q : VK} {H : Hp} {T : Prop} (k : Q (.bl (a || b)) H) (h : a = false → Q (.bl b) H → T) : if a = true then Q (.bl true) H else T := by
  cases a with
  | true => rw [if_pos rfl]; exact k
  | false => rw [if_neg Bool.false_ne_true]; exact h rfl k
/-- a test: its two ways -/
theorem ifB {a : Bool} {A B : Prop} (h1 : a = true → A) (h2 : a = false → B) : if a = true then A else B := by
  cases a with
  | true => rw [if_pos rfl]; exact h1 rfl
  | false => rw [if_neg Bool.false_ne_true]; exact h2 rfl
theorem ifNot {a : Bool} {A B : Prop} (h1 : a = false → A) (h2 : a = true → B) : if (!a) = true then A else B := by
  cases a with
  | false => exact (if_pos rfl).symm ▸ h1 rfl
  | true => exact (if_neg Bool.false_ne_true).symm ▸ h2 rfl
theorem ifP {p : Prop} [Decidable p] {A B : Prop} (h1 : p → A) (h2 : ¬ p → B) : if decide p = true then A else B := by
  by_cases h : p
  · rw [decide_eq_true h, if_pos rfl]; exact h1 h
  · rw [decide_eq_false h, if_neg Bool.false_ne_true]; exact h2 h
theorem ifEq {i j : Int} {A B : Prop} (h1 : i = j → A) (h2 : ¬ i = j → B) : if decide (V.int i = V.int j) = true then A else B := by
  rw [decV]
  exact ifP h1 h2
theorem ifNe {i j : Int} {A B : Prop} (h1 : ¬ i = j → A) (h2 : i = j → B) : if (!decide (V.int i = V.int j)) = true then A else B := by
  rw [decV]
  exact ifNot (fun e => h1 (of_decide_eq_false e)) fun e => h2 (of_decide_eq_true e)
theorem same_new {H : Hp} {a : Addr} {o : HO} (h : H a = none) : Same H (upd H a o) := fun b u e => by rw [upd_ne (ne_of_none e h)]; exact e
theorem upd_comm {H : Hp} {a b : Addr} {o u : HO} (h : a ≠ b) : upd (upd H a o) b u = upd (upd H b u) a o := by
  funext c
  unfold upd
  by_cases h1 : c = b
  · rw [if_pos h1, if_neg (fun q => h (q.symm.trans h1)), if_pos h1]
  · rw [if_neg h1, if_neg h1]
theorem in2 {z a b : Int} : (if (false : Bool) = true then !inV (.int z) [.int a, .int b] else inV (.int z) [.int a, .int b]) = (decide (z = a) || decide (z = b)) := by
  rw [if_neg Bool.false_ne_true]
  show ((a == z) || ((b == z) || false)) = _
  rw [Bool.or_false]
  congr 1
  · by_cases h : z = a
    · rw [h]; simp
    · have h' : ¬ a = z := fun q => h q.symm
      simp [h, h']
  · by_cases h : z = b
    · rw [h]; simp
    · have h' : ¬ b = z := fun q => h q.symm
      simp [h, h']
/-- x in (a, b) -/
theorem rd_in2 {K : PySem.W.Frag} {H : Hp} {p : Addr} {z a b : Int} {Q : VK} (hp : H p = some (.tup [.int a, .int b])) (q : Q (.bl (decide (z = a) || decide (z = b))) H) : rIn K false (.int z) (.ref p) H Q :=
  ⟨p, _, rfl, .inr (SqT.of hp), rfl, rfl, by
    have e : (if (false : Bool) = true then !inV (.int z) [.int a, .int b] else inV (.int z) [.int a, .int b]) = (decide (z = a) || decide (z = b)) := in2
    exact e.symm ▸ q⟩
/-! ### walks -/
theorem for_enum {K : PySem.W.Frag} {a : Addr} {xs : List V} {g : TG} {tb : TS} {D : Ends} {σ : St} {H : Hp} (Pv : Nat → St → Hp → Prop) (h0 : Pv 0 σ H) (hl : ∀ i σ H, i ≤ xs.length → Pv i σ H → SqL K H a xs)
    (hs : ∀ i x σ H, xs[i]? = some x → Pv i σ H → ∀ T, H T = none → g (.ref T) σ (upd H T (.tup [.int (i : Nat), x])) fun σ2 H2 => tb { D with nx := Pv (i + 1), ct := Pv (i + 1), bk := D.nx } σ2 H2) (hd : ∀ σ H, Pv xs.length σ H → D.nx σ H) :
    ∃ W : Nat → Nat → St → Hp → Prop, (∃ m, W 0 m σ H) ∧ ∀ i m σ H, W i m σ H →
      ((Ite K a).stop i H ∧ D.nx σ H) ∨ ((Ite K a).go i H ∧ ∃ N : St → Hp → Prop, (∀ σ' H', N σ' H' → ∃ m', m' < m ∧ W (i + 1) m' σ' H') ∧ ∀ x H', (Ite K a).yld i H x H' → g x σ H' fun σ2 H2 => tb { D with nx := N, ct := N, bk := D.nx } σ2 H2) := by
  refine ⟨fun i m σ H => m = xs.length - i ∧ i ≤ xs.length ∧ Pv i σ H, ⟨xs.length, by simp, Nat.zero_le _, h0⟩, ?_⟩
  rintro i m σ H ⟨rfl, hi, p⟩
  have q := hl i σ H hi p
  by_cases hlt : i < xs.length
  · refine .inr ⟨⟨xs, xs[i], q, by simp [hlt]⟩, Pv (i + 1), fun σ' H' p' => ⟨xs.length - (i + 1), by omega, rfl, hlt, p'⟩, fun v H' y => ?_⟩
    obtain ⟨T, x, rfl, hT, rfl, y⟩ := y
    exact hs i x σ H (y xs q) p T hT
  · have e : i = xs.length := by omega
    subst e
    exact .inl ⟨⟨xs, q, Nat.le_refl _⟩, hd σ H p⟩
theorem lc_enum {K : PySem.W.Frag} {a : Addr} {xs : List V} {g : TG} {tt : TT} {te : TE} {vs : List Nat} {σ : St} {H1 : Hp} {D : Addr} {Qd : Hp → Prop} (Pv : Nat → Hp → Prop) (h0 : Pv 0 (upd H1 D (.lst []))) (hl : ∀ i H, i ≤ xs.length → Pv i H → SqL K H a xs)
    (hs : ∀ i x H, xs[i]? = some x → Pv i H → ∀ T, H T = none → g (.ref T) (wipe σ vs) (upd H T (.tup [.int (i : Nat), x])) fun σ2 H2 => wipe σ2 vs = wipe σ vs ∧ tt σ2 H2 fun b H3 =>
      if b = true then te σ2 H3 fun y H4 => ∃ acc, H4 D = some (.lst acc) ∧ acc.length < sizeLine ∧ Pv (i + 1) (upd H4 D (.lst (acc ++ [y]))) else Pv (i + 1) H3) (hd : ∀ H, Pv xs.length H → Qd H) :
    ∃ W : Nat → Nat → Hp → Prop, (∃ m, W 0 m (upd H1 D (.lst []))) ∧ ∀ i m H, W i m H →
      ((Ite K a).stop i H ∧ Qd H) ∨ ((Ite K a).go i H ∧ ∃ Nx : Hp → Prop, (∀ H', Nx H' → ∃ m', m' < m ∧ W (i + 1) m' H') ∧ ∀ x H', (Ite K a).yld i H x H' → g x (wipe σ vs) H' fun σ2 H2 => wipe σ2 vs = wipe σ vs ∧ tt σ2 H2 fun b H3 =>
        if b = true then te σ2 H3 fun y H4 => ∃ acc, H4 D = some (.lst acc) ∧ acc.length < sizeLine ∧ Nx (upd H4 D (.lst (acc ++ [y]))) else Nx H3) := by
  refine ⟨fun i m H => m = xs.length - i ∧ i ≤ xs.length ∧ Pv i H, ⟨xs.length, by simp, Nat.zero_le _, h0⟩, ?_⟩
  rintro i m H ⟨rfl, hi, p⟩
  have q := hl i H hi p
  by_cases hlt : i < xs.length
  · refine .inr ⟨⟨xs, xs[i], q, by simp [hlt]⟩, Pv (i + 1), fun H' p' => ⟨xs.length - (i + 1), by omega, rfl, hlt, p'⟩, fun x H' y => ?_⟩
    obtain ⟨T, x, rfl, hT, rfl, y⟩ := y
    exact hs i x H (y xs q) p T hT
  · have e : i = xs.length := by omega
    subst e
    exact .inl ⟨⟨xs, q, Nat.le_refl _⟩, hd H p⟩
theorem lc_rangeC {lo c : Int} {n : Nat} {g : TG} {tt : TT} {te : TE} {vs : List Nat} {σ : St} {H1 : Hp} {D : Addr} {Qd : Hp → Prop} (Pv : Nat → Hp → Prop) (h0 : Pv 0 (upd H1 D (.lst [])))
    (hs : ∀ i H, i < n → Pv i H → g (.int (lo + (i : Nat) * c)) (wipe σ vs) H fun σ2 H2 => wipe σ2 vs = wipe σ vs ∧ tt σ2 H2 fun b H3 =>
      if b = true then te σ2 H3 fun y H4 => ∃ acc, H4 D = some (.lst acc) ∧ acc.length < sizeLine ∧ Pv (i + 1) (upd H4 D (.lst (acc ++ [y]))) else Pv (i + 1) H3) (hd : ∀ H, Pv n H → Qd H) :
    ∃ W : Nat → Nat → Hp → Prop, (∃ m, W 0 m (upd H1 D (.lst []))) ∧ ∀ i m H, W i m H →
      ((Itc lo c n).stop i H ∧ Qd H) ∨ ((Itc lo c n).go i H ∧ ∃ Nx : Hp → Prop, (∀ H', Nx H' → ∃ m', m' < m ∧ W (i + 1) m' H') ∧ ∀ x H', (Itc lo c n).yld i H x H' → g x (wipe σ vs) H' fun σ2 H2 => wipe σ2 vs = wipe σ vs ∧ tt σ2 H2 fun b H3 =>
        if b = true then te σ2 H3 fun y H4 => ∃ acc, H4 D = some (.lst acc) ∧ acc.length < sizeLine ∧ Nx (upd H4 D (.lst (acc ++ [y]))) else Nx H3) := by
  refine ⟨fun i m H => m = n - i ∧ i ≤ n ∧ Pv i H, ⟨n, by simp, Nat.zero_le _, h0⟩, ?_⟩
  rintro i m H ⟨rfl, hi, p⟩
  by_cases hlt : i < n
  · refine .inr ⟨hlt, Pv (i + 1), fun H' p' => ⟨n - (i + 1), by omega, rfl, hlt, p'⟩, fun x H' y => ?_⟩
    obtain ⟨e, y⟩ := y
    subst e y
    exact hs i _ hlt p
  · have e : i = n := by omega
    subst e
    exact .inl ⟨Nat.le_refl _, hd H p⟩
theorem any_take {α : Type} {l : List α} {f : α → Bool} {i : Nat} {a : α} (h : l[i]? = some a) : (l.take (i + 1)).any f = ((l.take i).any f || f a) := by
  rw [List.take_add_one, h, List.any_append]
  show (_ || (f a || false)) = _
  rw [Bool.or_false]
theorem any_of {α : Type} {l : List α} {f : α → Bool} {i : Nat} {a : α} (h : l[i]? = some a) (e : f a = true) : l.any f = true := List.any_eq_true.mpr ⟨a, List.mem_of_getElem? h, e⟩
end Po
namespace Po
open PySem L2
/-! ### what a procedure's steps are, without the papers -/
def isP : Cell → Bool
  | .off => true
  | .prl => true
  | .prc _ => true
  | .stp _ _ => true
  | _ => false
def RP (C : Cl) (L : Lay) (H : Hp) (m : Off) : Prop := ∀ c o, isP c = true → obj C L m c = some o → H (L.ad c) = some o
/-- a paper's step stands -/
structure HasStep (m : Off) (x : Pap) (ls : List Stp) (st : Stp) : Prop where
  p0 : 0 ≤ x.proc
  s0 : 0 ≤ x.step
  l : m.procs[x.proc.toNat]? = some ls
  s : ls[x.step.toNat]? = some st
/-- a paper stands at a, and it's none of the procedures' things -/
structure PapAt (C : Cl) (L : Lay) (H : Hp) (m : Off) (a dx l : Addr) (x : Pap) : Prop where
  rp : RP C L H m
  at_ : H a = some (.ins C.X dx (papF l x))
  aw : ∀ c, isP c = true → live m c → L.ad c ≠ a
section
variable {C : Cl} {L : Lay} {H H' : Hp} {m : Off} {x : Pap} {ls : List Stp} {s : Stp} {a dx l : Addr}
theorem Rep.rp (R : Rep C L H m) : RP C L H m := fun c o _ e => R.at_ c o e
theorem RP.off (R : RP C L H m) : H (L.ad .off) = some (.ins C.O (L.dx .off) (offF L m)) := R .off _ rfl rfl
theorem RP.prl (R : RP C L H m) : H (L.ad .prl) = some (.lst (refs (fun i => L.ad (.prc i)) m.procs.length)) := R .prl _ rfl rfl
theorem RP.prc (R : RP C L H m) {i : Nat} {l : List Stp} (h : m.procs[i]? = some l) : H (L.ad (.prc i)) = some (.lst (refs (fun j => L.ad (.stp i j)) l.length)) := R (.prc i) _ rfl (by show (m.procs[i]?).map _ = _; rw [h]; rfl)
theorem RP.stp (R : RP C L H m) {i j : Nat} {l : List Stp} {s : Stp} (h : m.procs[i]? = some l) (hs : l[j]? = some s) : H (L.ad (.stp i j)) = some (.ins C.S (L.dx (.stp i j)) (stpF s)) :=
  R (.stp i j) _ rfl (by show ((m.procs[i]?).bind _).map _ = _; rw [h]; show (l[j]?).map _ = _; rw [hs]; rfl)
theorem RP.same (R : RP C L H m) (s : Same H H') : RP C L H' m := fun c o p e => s _ _ (R c o p e)
theorem PapAt.upd (A : PapAt C L H m a dx l x) {y : Pap} : PapAt C L (upd H a (.ins C.X dx (papF l y))) m a dx l y :=
  ⟨fun c o p e => by rw [upd_ne (A.aw c p (obj_live e))]; exact A.rp c o p e, upd_same, A.aw⟩
theorem PapAt.same (A : PapAt C L H m a dx l x) (s : Same H H') : PapAt C L H' m a dx l x := ⟨A.rp.same s, s _ _ A.at_, A.aw⟩
theorem Rep.papAt (R : Rep C L H m) {k : Nat} (h : m.papers[k]? = some x) : PapAt C L H m (L.ad (.pap k)) (L.dx (.pap k)) (L.ad (.acl k)) x :=
  ⟨R.rp, R.pap h, fun c p hc e => by
    have := R.inj c (.pap k) hc (lt_of_get h) e
    rw [this] at p
    cases p⟩
theorem HasStep.at_ (h : HasStep m x ls s) : stepAt m x = s ∧ stepsAt m x = ls := by
  have e : stepsAt m x = ls := getD_some h.l
  exact ⟨by unfold stepAt; rw [e]; exact getD_some h.s, e⟩
theorem HasStep.lt (h : HasStep m x ls s) : x.step.toNat < ls.length := lt_of_get h.s
theorem has_step (W : WOff m) (X : WPap m.people.length m.procs x) : HasStep m x (stepsAt m x) (stepAt m x) := by
  have := X.p0
  have := X.p1
  have := X.s0
  have := X.s1
  exact ⟨X.p0, X.s0, some_getD _ (by omega), some_getD _ (by show x.step.toNat < (stepsAt m x).length; unfold stepsAt; omega)⟩
end
theorem WOff.papN {m : Off} (W : WOff m) {k : Nat} {x : Pap} (h : m.papers[k]? = some x) : WPap m.people.length m.procs x := W.pa x (List.mem_of_getElem? h)
/-! ### the promises -/
def sp_Person (C : Cl) : Sp := fun vs H Q _ => ∃ (p dx : Addr) (r c : Int), vs = [.ref p, .int r, .int c] ∧ H p = some (.ins C.P dx []) ∧ Q .non (upd H p (.ins C.P dx (perF ⟨r, c, -1, 0⟩)))
def sp_Step (C : Cl) : Sp := fun vs H Q _ => ∃ (p dx : Addr) (r n d w b : Int), vs = [.ref p, .int r, .int n, .int d, .int w, .int b] ∧ H p = some (.ins C.S dx []) ∧ Q .non (upd H p (.ins C.S dx (stpF ⟨r, n, d, w, b⟩)))
def sp_Act (C : Cl) : Sp := fun vs H Q _ => ∃ (p dx : Addr) (s t b f g : Int), vs = [.ref p, .int s, .int t, .int b, .int f, .int g] ∧ H p = some (.ins C.A dx []) ∧ Q .non (upd H p (.ins C.A dx (actF ⟨s, t, b, f, g⟩)))
def sp_Paper (C : Cl) : Sp := fun vs H Q _ => ∃ (p dx : Addr) (w r : Int), vs = [.ref p, .int w, .int r] ∧ H p = some (.ins C.X dx []) ∧
  ∀ l, l ≠ p → H l = none → Q .non (upd (upd H l (.lst [])) p (.ins C.X dx (papF l ⟨w, r, 0, 0, 0, 0, 0, []⟩)))
def sp_has (K : PySem.W.Frag) : Sp := fun vs H Q _ => ∃ (l : Addr) (xs : List V) (z : Int) (n : Nat), vs = [.ref l, .int z] ∧ SqL K H l xs ∧ xs.length = n ∧ Q (.bl (has n z)) H
def sp_is_role : Sp := fun vs H Q _ => ∃ z : Int, vs = [.int z] ∧ Q (.bl (isRole z)) H
def sp_are_roles : Sp := fun vs H Q _ => ∃ z : Int, vs = [.int z] ∧ Q (.bl (isRoles z)) H
def sp_current_step (C : Cl) : Sp := fun vs H Q _ => ∃ (L : Lay) (m : Off) (a dx l : Addr) (x : Pap) (ls : List Stp) (s : Stp), vs = [.ref (L.ad .off), .ref a] ∧ RP C L H m ∧ H a = some (.ins C.X dx (papF l x)) ∧ HasStep m x ls s ∧
  Q (.ref (L.ad (.stp x.proc.toNat x.step.toNat))) H
def sp_due (C : Cl) : Sp := fun vs H Q _ => ∃ (L : Lay) (m : Off) (a dx l : Addr) (x : Pap) (ls : List Stp) (s : Stp), vs = [.ref (L.ad .off), .ref a] ∧ RP C L H m ∧ H a = some (.ins C.X dx (papF l x)) ∧ HasStep m x ls s ∧
  Q (.int (m.today + s.days)) H
def sp_last_day (C : Cl) : Sp := fun vs H Q _ => ∃ (L : Lay) (m : Off) (z : Int), vs = [.ref (L.ad .off), .int z] ∧ H (L.ad .off) = some (.ins C.O (L.dx .off) (offF L m)) ∧ Q (.bl (decide (m.today ≤ z) && decide (z ≤ m.today + 1000))) H
def sp_is_late (C : Cl) : Sp := fun vs H Q _ => ∃ (L : Lay) (m : Off) (a dx l : Addr) (x : Pap), vs = [.ref (L.ad .off), .ref a] ∧ H (L.ad .off) = some (.ins C.O (L.dx .off) (offF L m)) ∧ H a = some (.ins C.X dx (papF l x)) ∧
  Q (.bl (decide (x.state = 0) && decide (x.due < m.today))) H
def sp_stands_for (C : Cl) : Sp := fun vs H Q _ => ∃ (L : Lay) (m : Off) (b f : Int), vs = [.ref (L.ad .off), .int b, .int f] ∧ Rep C L H m ∧ has m.people.length f = true ∧ Q (.bl (stands m b f)) H
def sp_holds (C : Cl) : Sp := fun vs H Q _ => ∃ (a dx : Addr) (p : Per) (r : Int), vs = [.ref a, .int r] ∧ H a = some (.ins C.P dx (perF p)) ∧ 0 ≤ p.roles ∧ 0 ≤ r ∧ Q (.bl (holds p r)) H
def sp_within (C : Cl) : Sp := fun vs H Q _ => ∃ (L : Lay) (m : Off) (ch wk lv : Int), vs = [.ref (L.ad .off), .int ch, .int wk, .int lv] ∧ Rep C L H m ∧ WOff m ∧ has m.people.length wk = true ∧ 0 ≤ lv ∧
  Q (.bl (climb m.people ch (lv.toNat + 1) wk)) H
def sp_is_entitled (C : Cl) : Sp := fun vs H Q _ => ∃ (L : Lay) (m : Off) (p r lv : Int), vs = [.ref (L.ad .off), .int p, .int r, .int lv] ∧ Rep C L H m ∧ WOff m ∧ 0 ≤ r ∧ 0 ≤ lv ∧
  ∀ H', Same H H' → Q (.bl (entitled m p r lv)) H'
def sp_has_part_in (C : Cl) : Sp := fun vs H Q _ => ∃ (a dx : Addr) (c : Ac) (b f : Int), vs = [.ref a, .int b, .int f] ∧ H a = some (.ins C.A dx (actF c)) ∧ ∀ H', Same H H' → Q (.bl (part c b f)) H'
def sp_in_round (C : Cl) : Sp := fun vs H Q _ => ∃ (L : Lay) (m : Off) (k : Nat) (x : Pap) (b f : Int), vs = [.ref (L.ad (.pap k)), .int b, .int f] ∧ Rep C L H m ∧ m.papers[k]? = some x ∧ ∀ H', Same H H' → Q (.bl (inRound x b f)) H'
def sp_in_apart (C : Cl) : Sp := fun vs H Q _ => ∃ (L : Lay) (m : Off) (k : Nat) (x : Pap) (b f : Int), vs = [.ref (L.ad .off), .ref (L.ad (.pap k)), .int b, .int f] ∧ Rep C L H m ∧ WOff m ∧ m.papers[k]? = some x ∧
  ∀ H', Same H H' → Q (.bl (inApart m x b f)) H'
def sp_refusal (C : Cl) : Sp := fun vs H Q _ => ∃ (L : Lay) (m : Off) (k : Nat) (x : Pap) (b f : Int), vs = [.ref (L.ad .off), .int b, .int f, .ref (L.ad (.pap k))] ∧ Rep C L H m ∧ WOff m ∧ m.papers[k]? = some x ∧ has m.people.length f = true ∧
  ∀ H', Same H H' → Q (.int (refusal m b f x)) H'
def sp_may_act (C : Cl) : Sp := fun vs H Q _ => ∃ (L : Lay) (m : Off) (b f k : Int), vs = [.ref (L.ad .off), .int b, .int f, .int k] ∧ Rep C L H m ∧ WOff m ∧ ∀ H', Same H H' → Q (.int (tryAct m b f k)) H'
def sp_themselves (C : Cl) : Sp := fun vs H Q _ => ∃ (L : Lay) (m : Off) (k : Nat) (x : Pap) (b : Int), vs = [.ref (L.ad .off), .int b, .ref (L.ad (.pap k))] ∧ Rep C L H m ∧ WOff m ∧ m.papers[k]? = some x ∧ has m.people.length b = true ∧
  ∀ H', Same H H' → Q (.bl (decide (refusal m b b x = 0))) H'
def sp_sigs (C : Cl) : Sp := fun vs H Q _ => ∃ (L : Lay) (m : Off) (k : Nat) (x : Pap), vs = [.ref (L.ad (.pap k))] ∧ Rep C L H m ∧ (∀ a ∈ x.acts, a.signed = 0 ∨ a.signed = 1) ∧ m.papers[k]? = some x ∧ x.acts.length ≤ 400 ∧ ∀ H', Same H H' → Q (.int (cnt x.acts x.step x.turn : Nat)) H'
section
variable {P : Program} {w : World} {K : PySem.W.Frag} {mg : Str → Option Value} {base : Heap} {C : Cl} {f : Addr} {fd : FuncData}
theorem rd_set {H : Hp} {a D dx : Addr} {fs : List (Str × V)} {g : Str} {v : V} {N : Hp → Prop} (h : H a = some (.ins D dx fs)) (c : Cls K D) (n : NoAttr K D g) (hl : fs.length < 1000) (q : N (upd H a (.ins D dx (putF g v fs)))) :
    ∃ a' C' dx' fs', V.ref a = .ref a' ∧ H a' = some (.ins C' dx' fs') ∧ Cls K C' ∧ NoAttr K C' g ∧ fs'.length < 1000 ∧ N (upd H a' (.ins C' dx' (putF g v fs'))) := ⟨a, D, dx, fs, rfl, h, c, n, hl, q⟩
theorem ok_Person (F : Fun K "__init__" "Person.__init__" s_Person f fd) (T : Txt K mg C.P C.S C.A C.X C.O) : FnOk P w K mg base CX0 1 f fd p_Person (sp_Person C) := by
  refine F.ok sc_Person (fun vs H Q E h => ?_) (fun cdv A outer s H vs Q E hr h => ?_)
  · obtain ⟨p, dx, r, c, rfl, _⟩ := h
    rfl
  · obtain ⟨p, dx, r, c, rfl, hp, k⟩ := h
    refine ⟨_, (pss_cons (ps_fld (pv 0) (pv 1) rfl)
      (pss_cons (ps_fld (pv 0) (pv 2) rfl)
      (pss_cons (ps_fld (pv 0) (pe_cst rfl T.c_NOBODY) rfl)
      (pss_one (ps_fld (pv 0) pe_int rfl))))), ?_⟩
    refine ⟨_, rfl, _, rfl, rd_set hp T.k_Person T.n_Person_roles (by show 0 < 1000; decide) ?_⟩
    refine ⟨_, rfl, _, rfl, rd_set upd_same T.k_Person T.n_Person_chief (by show 1 < 1000; decide) ?_⟩
    refine ⟨_, rfl, rd_set upd_same T.k_Person T.n_Person_stand_in (by show 2 < 1000; decide) ?_⟩
    refine ⟨_, rfl, rd_set upd_same T.k_Person T.n_Person_stand_in_until (by show 3 < 1000; decide) ?_⟩
    rw [upd_upd, upd_upd, upd_upd]
    exact k
theorem ok_Step (F : Fun K "__init__" "Step.__init__" s_Step f fd) (T : Txt K mg C.P C.S C.A C.X C.O) : FnOk P w K mg base CX0 1 f fd p_Step (sp_Step C) := by
  refine F.ok sc_Step (fun vs H Q E h => ?_) (fun cdv A outer s H vs Q E hr h => ?_)
  · obtain ⟨p, dx, r, n, d, ww, b, rfl, _⟩ := h
    rfl
  · obtain ⟨p, dx, r, n, d, ww, b, rfl, hp, k⟩ := h
    refine ⟨_, (pss_cons (ps_fld (pv 0) (pv 1) rfl)
      (pss_cons (ps_fld (pv 0) (pv 2) rfl)
      (pss_cons (ps_fld (pv 0) (pv 3) rfl)
      (pss_cons (ps_fld (pv 0) (pv 4) rfl)
      (pss_one (ps_fld (pv 0) (pv 5) rfl)))))), ?_⟩
    refine ⟨_, rfl, _, rfl, rd_set hp T.k_Step T.n_Step_role (by show 0 < 1000; decide) ?_⟩
    refine ⟨_, rfl, _, rfl, rd_set upd_same T.k_Step T.n_Step_signatures (by show 1 < 1000; decide) ?_⟩
    refine ⟨_, rfl, _, rfl, rd_set upd_same T.k_Step T.n_Step_days (by show 2 < 1000; decide) ?_⟩
    refine ⟨_, rfl, _, rfl, rd_set upd_same T.k_Step T.n_Step_writer_may_sign (by show 3 < 1000; decide) ?_⟩
    refine ⟨_, rfl, _, rfl, rd_set upd_same T.k_Step T.n_Step_goes_back_to (by show 4 < 1000; decide) ?_⟩
    rw [upd_upd, upd_upd, upd_upd, upd_upd]
    exact k
theorem ok_Act (F : Fun K "__init__" "Act.__init__" s_Act f fd) (T : Txt K mg C.P C.S C.A C.X C.O) : FnOk P w K mg base CX0 1 f fd p_Act (sp_Act C) := by
  refine F.ok sc_Act (fun vs H Q E h => ?_) (fun cdv A outer s H vs Q E hr h => ?_)
  · obtain ⟨p, dx, r, n, d, ww, b, rfl, _⟩ := h
    rfl
  · obtain ⟨p, dx, r, n, d, ww, b, rfl, hp, k⟩ := h
    refine ⟨_, (pss_cons (ps_fld (pv 0) (pv 1) rfl)
      (pss_cons (ps_fld (pv 0) (pv 2) rfl)
      (pss_cons (ps_fld (pv 0) (pv 3) rfl)
      (pss_cons (ps_fld (pv 0) (pv 4) rfl)
      (pss_one (ps_fld (pv 0) (pv 5) rfl)))))), ?_⟩
    refine ⟨_, rfl, _, rfl, rd_set hp T.k_Act T.n_Act_step (by show 0 < 1000; decide) ?_⟩
    refine ⟨_, rfl, _, rfl, rd_set upd_same T.k_Act T.n_Act_turn (by show 1 < 1000; decide) ?_⟩
    refine ⟨_, rfl, _, rfl, rd_set upd_same T.k_Act T.n_Act_by (by show 2 < 1000; decide) ?_⟩
    refine ⟨_, rfl, _, rfl, rd_set upd_same T.k_Act T.n_Act_behalf (by show 3 < 1000; decide) ?_⟩
    refine ⟨_, rfl, _, rfl, rd_set upd_same T.k_Act T.n_Act_signed (by show 4 < 1000; decide) ?_⟩
    rw [upd_upd, upd_upd, upd_upd, upd_upd]
    exact k
theorem ok_Paper (F : Fun K "__init__" "Paper.__init__" s_Paper f fd) (T : Txt K mg C.P C.S C.A C.X C.O) : FnOk P w K mg base CX0 1 f fd p_Paper (sp_Paper C) := by
  refine F.ok sc_Paper (fun vs H Q E h => ?_) (fun cdv A outer s H vs Q E hr h => ?_)
  · obtain ⟨p, dx, r, n, rfl, _⟩ := h
    rfl
  · obtain ⟨p, dx, r, n, rfl, hp, k⟩ := h
    refine ⟨_, (pss_cons (ps_fld (pv 0) (pv 1) rfl)
      (pss_cons (ps_fld (pv 0) (pv 2) rfl)
      (pss_cons (ps_fld (pv 0) (pe_cst rfl T.c_UNDER_WAY) rfl)
      (pss_cons (ps_fld (pv 0) pe_int rfl)
      (pss_cons (ps_fld (pv 0) pe_int rfl)
      (pss_cons (ps_fld (pv 0) pe_int rfl)
      (pss_cons (ps_fld (pv 0) pe_int rfl)
      (pss_one (ps_fld (pv 0) (pe_lst pa_nil) rfl))))))))), ?_⟩
    refine ⟨_, rfl, _, rfl, rd_set hp T.k_Paper T.n_Paper_writer (by show 0 < 1000; decide) ?_⟩
    refine ⟨_, rfl, _, rfl, rd_set upd_same T.k_Paper T.n_Paper_procedure (by show 1 < 1000; decide) ?_⟩
    refine ⟨_, rfl, rd_set upd_same T.k_Paper T.n_Paper_state (by show 2 < 1000; decide) ?_⟩
    refine ⟨_, rfl, rd_set upd_same T.k_Paper T.n_Paper_step (by show 3 < 1000; decide) ?_⟩
    refine ⟨_, rfl, rd_set upd_same T.k_Paper T.n_Paper_turn (by show 4 < 1000; decide) ?_⟩
    refine ⟨_, rfl, rd_set upd_same T.k_Paper T.n_Paper_level (by show 5 < 1000; decide) ?_⟩
    refine ⟨_, rfl, rd_set upd_same T.k_Paper T.n_Paper_due (by show 6 < 1000; decide) ?_⟩
    refine ⟨(by show 0 ≤ sizeLine; decide), fun l hl => ?_⟩
    have hlp : l ≠ p := fun e => by rw [e, upd_same] at hl; cases hl
    have hl0 : H l = none := by
      rw [upd_ne hlp, upd_ne hlp, upd_ne hlp, upd_ne hlp, upd_ne hlp, upd_ne hlp, upd_ne hlp] at hl
      exact hl
    refine ⟨_, rfl, rd_set (by rw [upd_ne hlp.symm]; exact upd_same) T.k_Paper T.n_Paper_acts (by show 7 < 1000; decide) ?_⟩
    iterate 7 rw [upd_comm hlp.symm, upd_upd]
    exact k l hlp hl0
theorem ok_has (F : Fun K "has" "has" s_has f fd) (T : Txt K mg C.P C.S C.A C.X C.O) : FnOk P w K mg base CX0 1 f fd p_has (sp_has K) := by
  refine F.ok sc_has (fun vs H Q E h => ?_) (fun cdv A outer s H vs Q E hr h => ?_)
  · obtain ⟨l, xs, z, n, rfl, _⟩ := h
    rfl
  · obtain ⟨l, xs, z, _, rfl, hS, rfl, k⟩ := h
    refine ⟨_, (pss_one (ps_ret (pe_chain op_le op_lt pe_int (pv 1) (pe_callB call_len_seq (by rfl) T.b_len PySem.boot_len (pa_cons (pv 0) pa_nil))))), ?_⟩
    refine ⟨_, rfl, _, _, rfl, rfl, _, rfl, andB k fun h k => ?_⟩
    exact ⟨_, rfl, l, xs, rfl, .inl hS, _, _, rfl, rfl, k⟩
theorem ok_is_role (F : Fun K "is_role" "is_role" s_is_role f fd) (T : Txt K mg C.P C.S C.A C.X C.O) : FnOk P w K mg base CX0 1 f fd p_is_role sp_is_role := by
  refine F.ok sc_is_role (fun vs H Q E h => ?_) (fun cdv A outer s H vs Q E hr h => ?_)
  · obtain ⟨z, rfl, _⟩ := h
    rfl
  · obtain ⟨z, rfl, k⟩ := h
    refine ⟨_, (pss_one (ps_ret (pe_chain op_le op_le pe_int (pv 0) (pe_cst rfl T.c_LAST_ROLE)))), ?_⟩
    exact ⟨_, rfl, _, _, rfl, rfl, _, rfl, andB k fun h k => ⟨_, _, rfl, rfl, k⟩⟩
theorem ok_are_roles (F : Fun K "are_roles" "are_roles" s_are_roles f fd) (T : Txt K mg C.P C.S C.A C.X C.O) : FnOk P w K mg base CX0 1 f fd p_are_roles sp_are_roles := by
  refine F.ok sc_are_roles (fun vs H Q E h => ?_) (fun cdv A outer s H vs Q E hr h => ?_)
  · obtain ⟨z, rfl, _⟩ := h
    rfl
  · obtain ⟨z, rfl, k⟩ := h
    refine ⟨_, (pss_one (ps_ret (pe_chain op_le op_le pe_int (pv 0) (pe_cst rfl T.c_ALL_ROLES)))), ?_⟩
    exact ⟨_, rfl, _, _, rfl, rfl, _, rfl, andB k fun h k => ⟨_, _, rfl, rfl, k⟩⟩
theorem ok_current_step (F : Fun K "current_step" "current_step" s_current_step f fd) (T : Txt K mg C.P C.S C.A C.X C.O) : FnOk P w K mg base CX0 1 f fd p_current_step (sp_current_step C) := by
  refine F.ok sc_current_step (fun vs H Q E h => ?_) (fun cdv A outer s H vs Q E hr h => ?_)
  · obtain ⟨L, m, a, dx, l, x, ls, st, rfl, _⟩ := h
    rfl
  · obtain ⟨L, m, a, dx, l, x, ls, st, rfl, R, ha, S, k⟩ := h
    refine ⟨_, (pss_one (ps_ret (pe_ix ix_list (pe_ix ix_list (pe_fld (pv 0) rfl) (pe_fld (pv 1) rfl) (fun _ _ => rfl)) (pe_fld (pv 1) rfl) (fun _ _ => rfl)))), ?_⟩
    have e1 : x.proc.toNat < m.procs.length := lt_of_get S.l
    have e2 : x.step.toNat < ls.length := lt_of_get S.s
    exact ⟨_, rfl, ⟨_, _, _, _, _, rfl, (R.off), T.k_Office, T.n_Office_procedures, l_O_procedures, ⟨_, rfl, ⟨_, _, _, _, _, rfl, (ha), T.k_Paper, T.n_Paper_procedure, l_X_procedure, (rd_ix (SqL.of R.prl) (Int.toNat_of_nonneg S.p0).symm (refs_at e1) ⟨_, rfl, ⟨_, _, _, _, _, rfl, (ha), T.k_Paper, T.n_Paper_step, l_X_step, (rd_ix (SqL.of (R.prc S.l)) (Int.toNat_of_nonneg S.s0).symm (refs_at e2) k)⟩⟩)⟩⟩⟩⟩
theorem ok_due_from_today (F : Fun K "due_from_today" "due_from_today" s_due_from_today f fd) (T : Txt K mg C.P C.S C.A C.X C.O) (g_current_step : Cal P w K mg base 1 "current_step" p_current_step (sp_current_step C)) :
    FnOk P w K mg base CX0 2 f fd p_due_from_today (sp_due C) := by
  refine F.ok sc_due_from_today (fun vs H Q E h => ?_) (fun cdv A outer s H vs Q E hr h => ?_)
  · obtain ⟨L, m, a, dx, l, x, ls, st, rfl, _⟩ := h
    rfl
  · obtain ⟨L, m, a, dx, l, x, ls, st, rfl, R, ha, S, k⟩ := h
    refine ⟨_, (pss_one (ps_ret (pe_op op_add (pe_fld (pv 0) rfl) (pe_fld (pe_callC g_current_step (hr.mono (by decide)) rfl (pa_cons (pv 0) (pa_cons (pv 1) pa_nil))) rfl)))), ?_⟩
    exact ⟨_, rfl, ⟨_, _, _, _, _, rfl, (R.off), T.k_Office, T.n_Office_today, l_O_today, ⟨_, rfl, _, rfl, L, m, a, dx, l, x, ls, st, rfl, R, ha, S, ⟨_, _, _, _, _, rfl, ((R.stp S.l S.s)), T.k_Step, T.n_Step_days, l_S_days, ⟨_, _, rfl, rfl, k⟩⟩⟩⟩⟩
theorem ok_may_be_last_day (F : Fun K "may_be_last_day" "may_be_last_day" s_may_be_last_day f fd) (T : Txt K mg C.P C.S C.A C.X C.O) : FnOk P w K mg base CX0 1 f fd p_may_be_last_day (sp_last_day C) := by
  refine F.ok sc_may_be_last_day (fun vs H Q E h => ?_) (fun cdv A outer s H vs Q E hr h => ?_)
  · obtain ⟨L, m, z, rfl, _⟩ := h
    rfl
  · obtain ⟨L, m, z, rfl, ho, k⟩ := h
    refine ⟨_, (pss_one (ps_ret (pe_chain op_le op_le (pe_fld (pv 0) rfl) (pv 1) (pe_op op_add (pe_fld (pv 0) rfl) (pe_cst rfl T.c_MOST_DAYS_ON))))), ?_⟩
    refine ⟨_, rfl, ⟨_, _, _, _, _, rfl, (ho), T.k_Office, T.n_Office_today, l_O_today, ⟨_, rfl, _, _, rfl, rfl, _, rfl, andB k fun h k => ?_⟩⟩⟩
    exact ⟨_, rfl, ⟨_, _, _, _, _, rfl, (ho), T.k_Office, T.n_Office_today, l_O_today, ⟨_, _, rfl, rfl, _, _, rfl, rfl, k⟩⟩⟩
theorem ok_is_late (F : Fun K "is_late" "is_late" s_is_late f fd) (T : Txt K mg C.P C.S C.A C.X C.O) : FnOk P w K mg base CX0 1 f fd p_is_late (sp_is_late C) := by
  refine F.ok sc_is_late (fun vs H Q E h => ?_) (fun cdv A outer s H vs Q E hr h => ?_)
  · obtain ⟨L, m, a, dx, l, x, rfl, _⟩ := h
    rfl
  · obtain ⟨L, m, a, dx, l, x, rfl, ho, ha, k⟩ := h
    refine ⟨_, (pss_one (ps_ret (pe_and (pe_cmpR op_eq (pe_fld (pv 1) rfl) (pe_cst rfl T.c_UNDER_WAY) (nomark _)) (pe_one (pe_cmpR op_lt (pe_fld (pv 1) rfl) (pe_fld (pv 0) rfl) (nomark _)))))), ?_⟩
    refine ⟨_, rfl, ⟨_, _, _, _, _, rfl, (ha), T.k_Paper, T.n_Paper_state, l_X_state, ⟨rfl, _, rfl, andV k fun h k => ?_⟩⟩⟩
    exact ⟨_, rfl, ⟨_, _, _, _, _, rfl, (ha), T.k_Paper, T.n_Paper_due, l_X_due, ⟨_, rfl, ⟨_, _, _, _, _, rfl, (ho), T.k_Office, T.n_Office_today, l_O_today, ⟨_, _, rfl, rfl, k⟩⟩⟩⟩⟩
theorem ok_stands_for (F : Fun K "stands_for" "stands_for" s_stands_for f fd) (T : Txt K mg C.P C.S C.A C.X C.O) : FnOk P w K mg base CX0 1 f fd p_stands_for (sp_stands_for C) := by
  refine F.ok sc_stands_for (fun vs H Q E h => ?_) (fun cdv A outer s H vs Q E hr h => ?_)
  · obtain ⟨L, m, b, g, rfl, _⟩ := h
    rfl
  · obtain ⟨L, m, b, g, rfl, R, hf, k⟩ := h
    refine ⟨_, (pss_cons (ps_if (pt_cmpR op_eq (pv 1) (pv 2) (nomark _)) (pss_one (ps_ret pe_bl)) pss_nil)
      (pss_cons (ps_set (i := 3) sc_stands_for.nd rfl (Or.inl rfl) (pe_ix ix_list (pe_fld (pv 0) rfl) (pv 2) (fun _ _ => rfl)))
      (pss_one (ps_ret (pe_and (pe_cmpR op_eq (pe_fld (pv 3) rfl) (pv 1) (nomark _)) (pe_one (pe_cmpR op_le (pe_fld (pv 0) rfl) (pe_fld (pv 3) rfl) (nomark _)))))))), ?_⟩
    refine ⟨_, rfl, _, rfl, rfl, _, rfl, ifEq (fun e => ?_) fun e => ?_⟩
    · have ek : stands m b g = true := by unfold stands; rw [decide_eq_true e]; rfl
      rw [ek] at k
      exact k
    · have ek : stands m b g = (decide ((per m g).sin = b) && decide (m.today ≤ (per m g).till)) := by unfold stands; rw [decide_eq_false e]; rfl
      rw [ek] at k
      have hp := R.per (has_per hf)
      refine ⟨_, rfl, ⟨_, _, _, _, _, rfl, (R.off), T.k_Office, T.n_Office_people, l_O_people, ⟨_, rfl, R.ixPer hf ?_⟩⟩⟩
      refine ⟨_, rfl, ⟨_, _, _, _, _, rfl, (hp), T.k_Person, T.n_Person_stand_in, l_P_stand_in, ⟨_, rfl, rfl, _, rfl, andV k fun h k => ?_⟩⟩⟩
      exact ⟨_, rfl, ⟨_, _, _, _, _, rfl, (R.off), T.k_Office, T.n_Office_today, l_O_today, ⟨_, rfl, ⟨_, _, _, _, _, rfl, (hp), T.k_Person, T.n_Person_stand_in_until, l_P_stand_in_until, ⟨_, _, rfl, rfl, k⟩⟩⟩⟩⟩
theorem holds_bit {p : Per} {r : Int} (h : 0 ≤ p.roles) : decide (V.int (Builtin.bitAnd (p.roles / 2 ^ r.toNat) 1) = V.int 1) = holds p r := by
  rw [decV, PyProof.Rows.bitAnd_m1]
  unfold holds
  have e : p.roles / 2 ^ r.toNat % 2 = ((p.roles.toNat / 2 ^ r.toNat % 2 : Nat) : Int) := by
    obtain ⟨n, hn⟩ : ∃ n : Nat, p.roles = n := ⟨p.roles.toNat, by omega⟩
    rw [hn, Int.toNat_natCast]
    norm_cast
  rw [e]
  by_cases z : p.roles.toNat / 2 ^ r.toNat % 2 = 1
  · rw [z]; rfl
  · rw [decide_eq_false (by omega)]
    exact (beq_eq_false_iff_ne.mpr z).symm
theorem ok_holds (F : Fun K "holds" "holds" s_holds f fd) (T : Txt K mg C.P C.S C.A C.X C.O) : FnOk P w K mg base CX0 1 f fd p_holds (sp_holds C) := by
  refine F.ok sc_holds (fun vs H Q E h => ?_) (fun cdv A outer s H vs Q E hr h => ?_)
  · obtain ⟨a, dx, p, r, rfl, _⟩ := h
    rfl
  · obtain ⟨a, dx, p, r, rfl, hp, h0, h1, k⟩ := h
    refine ⟨_, (pss_one (ps_ret (pe_cmpR op_eq (pe_op op_and (pe_op op_shr (pe_fld (pv 0) rfl) (pv 1)) pe_int) pe_int (nomark _)))), ?_⟩
    refine ⟨_, rfl, ⟨_, _, _, _, _, rfl, (hp), T.k_Person, T.n_Person_roles, l_P_roles, ⟨_, rfl, _, _, rfl, rfl, h1, _, _, rfl, rfl, rfl, ?_⟩⟩⟩
    rw [← holds_bit h0] at k
    exact k
theorem ok_is_within_levels_above (F : Fun K "is_within_levels_above" "is_within_levels_above" s_is_within_levels_above f fd) (T : Txt K mg C.P C.S C.A C.X C.O) : FnOk P w K mg base CX0 1 f fd p_is_within_levels_above (sp_within C) := by
  refine F.ok sc_is_within_levels_above (fun vs H Q E h => ?_) (fun cdv A outer s H vs Q E hr h => ?_)
  · obtain ⟨L, m, ch, wk, lv, rfl, _⟩ := h
    rfl
  · obtain ⟨L, m, ch, wk, lv, rfl, R, W, hw, hlv, k⟩ := h
    refine ⟨_, (pss_cons (ps_set (i := 4) sc_is_within_levels_above.nd rfl (Or.inl rfl) (pv 2))
      (pss_cons (ps_set (i := 5) sc_is_within_levels_above.nd rfl (Or.inl rfl) pe_int)
      (pss_cons (ps_while PassesOwn.never (PW.pt (pw_and (pt_cmpR op_ne (pv 4) (pe_cst rfl T.c_NOBODY) (nomark _)) (pw_and1 (pt_cmpR op_le (pv 5) (pv 3) (nomark _))))) (pss_cons (ps_if (pt_cmpR op_eq (pv 4) (pv 1) (nomark _)) (pss_one (ps_ret pe_bl)) pss_nil)
      (pss_cons (ps_set (i := 4) sc_is_within_levels_above.nd rfl (Or.inl rfl) (pe_fld (pe_ix ix_list (pe_fld (pv 0) rfl) (pv 4) (fun _ _ => rfl)) rfl))
      (pss_one (ps_set (i := 5) sc_is_within_levels_above.nd rfl (Or.inl rfl) (pe_op op_add (pv 5) pe_int))))))
      (pss_one (ps_ret pe_bl))))), ?_⟩
    refine ⟨_, rfl, ?_⟩
    refine ⟨fun mm σ H' => ∃ (r : Int) (n : Nat), H' = H ∧ σ = [some (.ref (L.ad .off)), some (.int ch), some (.int wk), some (.int lv), some (.int r), some (.int (n : Int))] ∧ mm = lv.toNat + 1 - n ∧ n ≤ lv.toNat + 1 ∧
      (r = -1 ∨ has m.people.length r = true) ∧ climb m.people ch (lv.toNat + 1) wk = climb m.people ch (lv.toNat + 1 - n) r, ⟨_, wk, 0, rfl, rfl, rfl, Nat.zero_le _, .inr hw, rfl⟩, ?_⟩
    rintro mm σ _ ⟨r, n, rfl, rfl, rfl, hn, hrr, e⟩
    refine ⟨_, rfl, rfl, _, rfl, ifNe (fun h => ?_) fun h => iteF ?_⟩
    · refine ⟨_, rfl, _, rfl, _, _, rfl, rfl, _, rfl, ifP (fun h2 => ?_) fun h2 => ?_⟩
      · refine ⟨_, fun _ _ q => q, ?_⟩
        have hr2 := hrr.resolve_left h
        have ek : lv.toNat + 1 - n = (lv.toNat + 1 - (n + 1)) + 1 := by omega
        refine ⟨_, rfl, _, rfl, rfl, _, rfl, ifEq (fun e2 => ?_) fun e2 => ?_⟩
        · have ec : climb m.people ch (lv.toNat + 1) wk = true := by
            rw [e, ek]
            show (if r = -1 then false else if r = ch then true else _) = true
            rw [if_neg h, if_pos e2]
          rw [ec] at k
          exact k
        · refine ⟨_, rfl, ⟨_, _, _, _, _, rfl, (R.off), T.k_Office, T.n_Office_people, l_O_people, ⟨_, rfl, R.ixPer hr2 (⟨_, _, _, _, _, rfl, ((R.per (has_per hr2))), T.k_Person, T.n_Person_chief, l_P_chief, ⟨_, rfl, _, _, rfl, rfl, ?_⟩⟩)⟩⟩⟩
          have Wp := W.per1 hr2
          refine ⟨lv.toNat + 1 - (n + 1), by omega, (per m r).chief, n + 1, rfl, rfl, rfl, by omega, ?_, ?_⟩
          · by_cases z : (per m r).chief = -1
            · exact .inl z
            · refine .inr (has_iff.mpr ⟨?_, Wp.c1⟩)
              have := Wp.c0
              omega
          · rw [e, ek]
            show (if r = -1 then false else if r = ch then true else _) = _
            rw [if_neg h, if_neg e2]
            rfl
      · have ek : lv.toNat + 1 - n = 0 := by omega
        rw [ek] at e
        rw [e] at k
        exact k
    · have ec : climb m.people ch (lv.toNat + 1) wk = false := by
        rw [e, h]
        cases lv.toNat + 1 - n <;> simp [climb]
      rw [ec] at k
      exact k
theorem ok_is_entitled (F : Fun K "is_entitled" "is_entitled" s_is_entitled f fd) (T : Txt K mg C.P C.S C.A C.X C.O) (g_holds : Cal P w K mg base 1 "holds" p_holds (sp_holds C))
    (g_is_within_levels_above : Cal P w K mg base 1 "is_within_levels_above" p_is_within_levels_above (sp_within C)) : FnOk P w K mg base CX0 2 f fd p_is_entitled (sp_is_entitled C) := by
  refine F.ok sc_is_entitled (fun vs H Q E h => ?_) (fun cdv A outer s H vs Q E hr h => ?_)
  · obtain ⟨L, m, p, r, lv, rfl, _⟩ := h
    rfl
  · obtain ⟨L, m, p, r, lv, rfl, R, W, hr0, hlv, k⟩ := h
    refine ⟨_, (pss_cons (ps_for PassesOwn.never rfl (pi_enum (by rfl) T.b_enumerate (pa_cons (pe_fld (pv 0) rfl) pa_nil)) (pg_tup rfl (pgs_cons (pg_name (i := 4) sc_is_entitled.nd rfl (Or.inl rfl)) (pgs_cons (pg_name (i := 5) sc_is_entitled.nd rfl (Or.inl rfl)) pgs_nil))) (pss_one (ps_if (PW.pt (pw_and (pt_val (pe_callC g_holds (hr.mono (by decide)) rfl (pa_cons (pv 5) (pa_cons (pv 2) pa_nil)))) (pw_and1 (pt_val (pe_callC g_is_within_levels_above (hr.mono (by decide)) rfl (pa_cons (pv 0) (pa_cons (pv 1) (pa_cons (pv 4) (pa_cons (pv 3) pa_nil))))))))) (pss_one (ps_ret pe_bl)) pss_nil)))
      (pss_one (ps_ret pe_bl))), ?_⟩
    refine ⟨_, rfl, ⟨_, _, _, _, _, rfl, (R.off), T.k_Office, T.n_Office_people, l_O_people, ⟨_, _, rfl, SqL.of R.ppl, for_enum (K := K) (xs := refs (fun i => L.ad (.per i)) m.people.length)
      (fun i σ H' => Same H H' ∧ (∃ v4 v5, σ = [some (.ref (L.ad .off)), some (.int p), some (.int r), some (.int lv), v4, v5]) ∧ ((List.range i).any fun i => holds (m.people.getD i d0) r && climb m.people p (lv.toNat + 1) i) = false)
      ⟨Same.refl _, ⟨none, none, rfl⟩, rfl⟩ (fun i σ H' _ q => q.1.seq (SqL.of R.ppl)) ?_ ?_⟩⟩⟩
    · rintro i x σ H' hi ⟨sm, ⟨v4, v5, rfl⟩, hno⟩ Tt hT
      obtain ⟨hlt, rfl⟩ := refs_get hi
      obtain ⟨pp, hpp⟩ := get_of_lt hlt
      have s2 : Same H' (upd H' Tt (.tup [.int (i : Nat), .ref (L.ad (.per i))])) := same_new hT
      have R2 := (R.same sm).same s2
      have Wp := W.per pp (List.mem_of_getElem? hpp)
      have eg : m.people.getD i d0 = pp := getD_some hpp
      have nx : (holds pp r && climb m.people p (lv.toNat + 1) i) = false → ((List.range (i + 1)).any fun i => holds (m.people.getD i d0) r && climb m.people p (lv.toNat + 1) i) = false := fun z => by
        rw [List.range_succ, List.any_append, hno]
        show (false || ((holds (m.people.getD i d0) r && climb m.people p (lv.toNat + 1) i) || false)) = false
        rw [eg, z]
        rfl
      refine ⟨Tt, _, rfl, SqT.of upd_same, rfl, _, _, rfl, _, _, rfl, rfl, ?_⟩
      refine ⟨_, rfl, _, rfl, _, _, pp, r, rfl, R2.per hpp, Wp.r0, hr0, _, rfl, ifB (fun e1 => ?_) fun e1 => iteF ?_⟩
      · refine ⟨_, rfl, _, rfl, _, rfl, _, rfl, L, m, p, (i : Nat), lv, rfl, R2, W, has_iff.mpr ⟨Int.natCast_nonneg _, by omega⟩, hlv, _, rfl, ifB (fun e2 => ?_) fun e2 => ?_⟩
        · have ek : entitled m p r lv = true := by
            unfold entitled
            refine List.any_eq_true.mpr ⟨i, List.mem_range.mpr hlt, ?_⟩
            rw [eg, e1, e2]
            rfl
          rw [ek] at k
          exact k _ (sm.trans s2)
        · exact ⟨sm.trans s2, ⟨_, _, rfl⟩, nx (by rw [e2, Bool.and_false])⟩
      · exact ⟨sm.trans s2, ⟨_, _, rfl⟩, nx (by rw [e1, Bool.false_and])⟩
    · rintro σ H' ⟨sm, ⟨v4, v5, rfl⟩, hno⟩
      rw [refs_len] at hno
      have ek : entitled m p r lv = false := hno
      rw [ek] at k
      exact k _ sm
theorem ok_has_part_in (F : Fun K "has_part_in" "has_part_in" s_has_part_in f fd) (T : Txt K mg C.P C.S C.A C.X C.O) : FnOk P w K mg base CX0 1 f fd p_has_part_in (sp_has_part_in C) := by
  refine F.ok sc_has_part_in (fun vs H Q E h => ?_) (fun cdv A outer s H vs Q E hr h => ?_)
  · obtain ⟨a, dx, c, b, g, rfl, _⟩ := h
    rfl
  · obtain ⟨a, dx, c, b, g, rfl, ha, k⟩ := h
    refine ⟨_, (pss_one (ps_ret (pe_or (pe_cmpR op_in_seq (pe_fld (pv 0) rfl) (pe_tup (pa_cons (pv 1) (pa_cons (pv 2) pa_nil))) rfl) (pe_one (pe_cmpR op_in_seq (pe_fld (pv 0) rfl) (pe_tup (pa_cons (pv 1) (pa_cons (pv 2) pa_nil))) rfl))))), ?_⟩
    refine ⟨_, rfl, ⟨_, _, _, _, _, rfl, (ha), T.k_Act, T.n_Act_by, l_A_by, ⟨_, rfl, _, rfl, (by show 2 ≤ sizeLine; decide), fun t ht => rd_in2 upd_same ⟨_, rfl, ?_⟩⟩⟩⟩
    have s1 : Same H (upd H t (.tup [.int b, .int g])) := same_new ht
    refine orB (k _ s1) fun h2 _ => ?_
    have ha2 := s1 _ _ ha
    refine ⟨_, rfl, ⟨_, _, _, _, _, rfl, (ha2), T.k_Act, T.n_Act_behalf, l_A_behalf, ⟨_, rfl, _, rfl, (by show 2 ≤ sizeLine; decide), fun t2 ht2 => rd_in2 upd_same ?_⟩⟩⟩
    have k2 := k _ (s1.trans (same_new (o := .tup [.int b, .int g]) ht2))
    unfold part at k2
    rw [h2, Bool.false_or] at k2
    exact k2
theorem ok_acted_in_this_round (F : Fun K "acted_in_this_round" "acted_in_this_round" s_acted_in_this_round f fd) (T : Txt K mg C.P C.S C.A C.X C.O) (g_has_part_in : Cal P w K mg base 1 "has_part_in" p_has_part_in (sp_has_part_in C)) :
    FnOk P w K mg base CX0 2 f fd p_acted_in_this_round (sp_in_round C) := by
  refine F.ok sc_acted_in_this_round (fun vs H Q E h => ?_) (fun cdv A outer s H vs Q E hr h => ?_)
  · obtain ⟨L, m, kk, x, b, g, rfl, _⟩ := h
    rfl
  · obtain ⟨L, m, kk, x, b, g, rfl, R, hx, k⟩ := h
    refine ⟨_, (pss_cons (ps_for PassesOwn.never rfl (pi_list (pe_fld (pv 0) rfl)) (pg_name (i := 3) sc_acted_in_this_round.nd rfl (Or.inl rfl)) (pss_one (ps_if (PW.pt (pw_and (pt_cmpR op_eq (pe_fld (pv 3) rfl) (pe_fld (pv 0) rfl) (nomark _)) (pw_and (pt_cmpR op_eq (pe_fld (pv 3) rfl) (pe_fld (pv 0) rfl) (nomark _)) (pw_and1 (pt_val (pe_callC g_has_part_in (hr.mono (by decide)) rfl (pa_cons (pv 3) (pa_cons (pv 1) (pa_cons (pv 2) pa_nil))))))))) (pss_one (ps_ret pe_bl)) pss_nil)))
      (pss_one (ps_ret pe_bl))), ?_⟩
    refine ⟨_, rfl, ⟨_, _, _, _, _, rfl, ((R.pap hx)), T.k_Paper, T.n_Paper_acts, l_X_acts, ⟨_, rfl, ⟨_, SqL.of (R.acl hx)⟩, for_list (K := K) (xs := refs (fun j => L.ad (.act kk j)) x.acts.length)
      (fun i σ H' => Same H H' ∧ (∃ v, σ = [some (.ref (L.ad (.pap kk))), some (.int b), some (.int g), v]) ∧ ((x.acts.take i).any fun a => (decide (a.step = x.step) && decide (a.turn = x.turn)) && part a b g) = false)
      ⟨Same.refl _, ⟨none, rfl⟩, rfl⟩ (fun i σ H' _ q => q.1.seq (SqL.of (R.acl hx))) ?_ ?_⟩⟩⟩
    · rintro i v σ H' hi ⟨sm, ⟨v3, rfl⟩, hno⟩
      obtain ⟨hlt, rfl⟩ := refs_get hi
      obtain ⟨ac, hac⟩ := get_of_lt hlt
      have R2 := R.same sm
      have ha := R2.act hx hac
      have hp := R2.pap hx
      have nx : ∀ H3, Same H' H3 → ((decide (ac.step = x.step) && decide (ac.turn = x.turn)) && part ac b g) = false →
          Same H H3 ∧ (∃ v, [some (V.ref (L.ad (.pap kk))), some (.int b), some (.int g), some (V.ref (L.ad (.act kk i)))] = [some (V.ref (L.ad (.pap kk))), some (.int b), some (.int g), v]) ∧ ((x.acts.take (i + 1)).any fun a => (decide (a.step = x.step) && decide (a.turn = x.turn)) && part a b g) = false :=
        fun H3 s3 z => ⟨sm.trans s3, ⟨_, rfl⟩, by rw [any_take hac, hno, z]; rfl⟩
      refine ⟨_, rfl, ⟨_, _, _, _, _, rfl, (ha), T.k_Act, T.n_Act_step, l_A_step, ⟨_, rfl, ⟨_, _, _, _, _, rfl, (hp), T.k_Paper, T.n_Paper_step, l_X_step, ⟨rfl, _, rfl, ifEq (fun e1 => ?_) fun e1 => iteF (nx _ (Same.refl _) (by rw [decide_eq_false e1]; rfl))⟩⟩⟩⟩⟩
      refine ⟨_, rfl, ⟨_, _, _, _, _, rfl, (ha), T.k_Act, T.n_Act_turn, l_A_turn, ⟨_, rfl, ⟨_, _, _, _, _, rfl, (hp), T.k_Paper, T.n_Paper_turn, l_X_turn, ⟨rfl, _, rfl, ifEq (fun e2 => ?_) fun e2 => iteF (nx _ (Same.refl _) (by rw [decide_eq_false e2, Bool.and_false]; rfl))⟩⟩⟩⟩⟩
      refine ⟨_, rfl, _, rfl, _, rfl, _, _, ac, b, g, rfl, ha, fun H3 s3 => ⟨_, rfl, ifB (fun e3 => ?_) fun e3 => nx _ s3 (by rw [e3, Bool.and_false])⟩⟩
      have ek : inRound x b g = true := any_of hac (by rw [decide_eq_true e1, decide_eq_true e2, e3]; rfl)
      rw [ek] at k
      exact k _ (sm.trans s3)
    · rintro σ H' ⟨sm, ⟨v3, rfl⟩, hno⟩
      rw [refs_len, List.take_length] at hno
      have ek : inRound x b g = false := hno
      rw [ek] at k
      exact k _ sm
theorem kd_get (r s : Int) : ∀ (l : List (Int × Int)) (d : List (List Key × V)), (valV (l.foldl kdPut d) (k2 r s)).isSome = ((valV d (k2 r s)).isSome || apartIn l r s)
  | [], d => by
    show _ = (_ || false)
    rw [Bool.or_false]
    rfl
  | p :: l, d => by
    rw [List.foldl_cons, kd_get r s l]
    have ek : ∀ a b : Int, (k2 r s = k2 a b) ↔ (r = a ∧ s = b) := fun a b => by
      constructor
      · intro e
        unfold k2 at e
        injection e with e1 e2
        injection e2 with e2 _
        exact ⟨Sum.inl.inj e1, Sum.inl.inj e2⟩
      · rintro ⟨rfl, rfl⟩; rfl
    have e : (valV (kdPut d p) (k2 r s)).isSome = ((valV d (k2 r s)).isSome || ((decide (p.1 = r) && decide (p.2 = s)) || (decide (p.1 = s) && decide (p.2 = r)))) := by
      unfold kdPut
      rw [valV_put, valV_put]
      by_cases h1 : k2 r s = k2 p.2 p.1
      · obtain ⟨rfl, rfl⟩ := (ek _ _).mp h1
        rw [if_pos rfl]
        simp
      · rw [if_neg h1]
        have h1' : ¬ (p.1 = s ∧ p.2 = r) := fun q => h1 ((ek _ _).mpr ⟨q.2.symm, q.1.symm⟩)
        have z1 : (decide (p.1 = s) && decide (p.2 = r)) = false := by
          rw [Bool.eq_false_iff]
          intro q
          rw [Bool.and_eq_true, decide_eq_true_eq, decide_eq_true_eq] at q
          exact h1' q
        rw [z1, Bool.or_false]
        by_cases h2 : k2 r s = k2 p.1 p.2
        · obtain ⟨rfl, rfl⟩ := (ek _ _).mp h2
          rw [if_pos rfl]
          simp
        · rw [if_neg h2]
          have h2' : ¬ (p.1 = r ∧ p.2 = s) := fun q => h2 ((ek _ _).mpr ⟨q.1.symm, q.2.symm⟩)
          have z2 : (decide (p.1 = r) && decide (p.2 = s)) = false := by
            rw [Bool.eq_false_iff]
            intro q
            rw [Bool.and_eq_true, decide_eq_true_eq, decide_eq_true_eq] at q
            exact h2' q
          rw [z2, Bool.or_false]
    rw [e, Bool.or_assoc]
    rfl
theorem kd_apart (l : List (Int × Int)) (r s : Int) : (valV (kdOf l) (k2 r s)).isSome = apartIn l r s := by
  unfold kdOf
  rw [kd_get]
  rfl
theorem ok_acted_in_a_role_kept_apart (F : Fun K "acted_in_a_role_kept_apart" "acted_in_a_role_kept_apart" s_acted_in_a_role_kept_apart f fd) (T : Txt K mg C.P C.S C.A C.X C.O) (g_has_part_in : Cal P w K mg base 1 "has_part_in" p_has_part_in (sp_has_part_in C)) :
    FnOk P w K mg base CX0 2 f fd p_acted_in_a_role_kept_apart (sp_in_apart C) := by
  refine F.ok sc_acted_in_a_role_kept_apart (fun vs H Q E h => ?_) (fun cdv A outer s H vs Q E hr h => ?_)
  · obtain ⟨L, m, kk, x, b, g, rfl, _⟩ := h
    rfl
  · obtain ⟨L, m, kk, x, b, g, rfl, R, W, hx, k⟩ := h
    refine ⟨_, (pss_cons (ps_set (i := 4) sc_acted_in_a_role_kept_apart.nd rfl (Or.inl rfl) (pe_ix ix_list (pe_fld (pv 0) rfl) (pe_fld (pv 1) rfl) (fun _ _ => rfl)))
      (pss_cons (ps_set (i := 5) sc_acted_in_a_role_kept_apart.nd rfl (Or.inl rfl) (pe_fld (pe_ix ix_list (pv 4) (pe_fld (pv 1) rfl) (fun _ _ => rfl)) rfl))
      (pss_cons (ps_for PassesOwn.never rfl (pi_list (pe_fld (pv 1) rfl)) (pg_name (i := 6) sc_acted_in_a_role_kept_apart.nd rfl (Or.inl rfl)) (pss_one (ps_if (PW.pt (pw_and (pt_cmp (pc_din (hu_of hr) (pe_tup (pa_cons (pe_fld (pe_ix ix_list (pv 4) (pe_fld (pv 6) rfl) (fun _ _ => rfl)) rfl) (pa_cons (pv 5) pa_nil))) (pe_fld (pv 0) rfl))) (pw_and1 (pt_val (pe_callC g_has_part_in (hr.mono (by decide)) rfl (pa_cons (pv 6) (pa_cons (pv 2) (pa_cons (pv 3) pa_nil)))))))) (pss_one (ps_ret pe_bl)) pss_nil)))
      (pss_one (ps_ret pe_bl))))), ?_⟩
    have X := W.papN hx
    have S := has_step W X
    have e1 : x.proc.toNat < m.procs.length := lt_of_get S.l
    refine ⟨_, rfl, ⟨_, _, _, _, _, rfl, (R.off), T.k_Office, T.n_Office_procedures, l_O_procedures, ⟨_, rfl, ⟨_, _, _, _, _, rfl, ((R.pap hx)), T.k_Paper, T.n_Paper_procedure, l_X_procedure, (rd_ix (SqL.of R.prl) (Int.toNat_of_nonneg S.p0).symm (refs_at e1) ?_)⟩⟩⟩⟩
    refine ⟨_, rfl, _, rfl, ⟨_, _, _, _, _, rfl, ((R.pap hx)), T.k_Paper, T.n_Paper_step, l_X_step, (rd_ix (SqL.of (R.prc S.l)) (Int.toNat_of_nonneg S.s0).symm (refs_at S.lt) (⟨_, _, _, _, _, rfl, ((R.stp S.l S.s)), T.k_Step, T.n_Step_role, l_S_role, ?_⟩))⟩⟩
    refine ⟨_, rfl, ⟨_, _, _, _, _, rfl, ((R.pap hx)), T.k_Paper, T.n_Paper_acts, l_X_acts, ⟨_, rfl, ⟨_, SqL.of (R.acl hx)⟩, for_list (K := K) (xs := refs (fun j => L.ad (.act kk j)) x.acts.length)
      (fun i σ H' => Same H H' ∧ (∃ v, σ = [some (.ref (L.ad .off)), some (.ref (L.ad (.pap kk))), some (.int b), some (.int g), some (.ref (L.ad (.prc x.proc.toNat))), some (.int (stepAt m x).role), v]) ∧
        ((x.acts.take i).any fun a => apartIn m.apart ((stepsAt m x).getD a.step.toNat st0).role (stepAt m x).role && part a b g) = false)
      ⟨Same.refl _, ⟨none, rfl⟩, rfl⟩ (fun i σ H' _ q => q.1.seq (SqL.of (R.acl hx))) ?_ ?_⟩⟩⟩
    · rintro i v σ H' hi ⟨sm, ⟨v3, rfl⟩, hno⟩
      obtain ⟨hlt, rfl⟩ := refs_get hi
      obtain ⟨ac, hac⟩ := get_of_lt hlt
      have R2 := R.same sm
      have ha := R2.act hx hac
      have Aw := X.ac ac (List.mem_of_getElem? hac)
      have hlt2 : ac.step.toNat < (stepsAt m x).length := by have := Aw.s0; have := Aw.s1; unfold stepsAt; omega
      obtain ⟨st, hst⟩ := get_of_lt hlt2
      have est : (stepsAt m x).getD ac.step.toNat st0 = st := getD_some hst
      have nx : ∀ H3, Same H' H3 → (apartIn m.apart st.role (stepAt m x).role && part ac b g) = false →
          Same H H3 ∧ (∃ v, [some (V.ref (L.ad .off)), some (.ref (L.ad (.pap kk))), some (.int b), some (.int g), some (.ref (L.ad (.prc x.proc.toNat))), some (.int (stepAt m x).role), some (V.ref (L.ad (.act kk i)))] = [some (V.ref (L.ad .off)), some (.ref (L.ad (.pap kk))), some (.int b), some (.int g), some (.ref (L.ad (.prc x.proc.toNat))), some (.int (stepAt m x).role), v]) ∧
          ((x.acts.take (i + 1)).any fun a => apartIn m.apart ((stepsAt m x).getD a.step.toNat st0).role (stepAt m x).role && part a b g) = false :=
        fun H3 s3 z => ⟨sm.trans s3, ⟨_, rfl⟩, by rw [any_take hac, hno, est, z]; rfl⟩
      refine ⟨_, rfl, _, rfl, ⟨_, _, _, _, _, rfl, (ha), T.k_Act, T.n_Act_step, l_A_step, (rd_ix (SqL.of (R2.prc S.l)) (Int.toNat_of_nonneg Aw.s0).symm (refs_at hlt2) (⟨_, _, _, _, _, rfl, ((R2.stp S.l hst)), T.k_Step, T.n_Step_role, l_S_role, ⟨_, rfl, (by show 2 ≤ sizeLine; decide), fun t ht => ?_⟩⟩))⟩⟩
      have s3 : Same H' (upd H' t (.tup [.int st.role, .int (stepAt m x).role])) := same_new ht
      have R3 := R2.same s3
      refine ⟨_, rfl, ⟨_, _, _, _, _, rfl, (R3.off), T.k_Office, T.n_Office_kept_apart, l_O_kept_apart, ⟨_, _, rfl, DGet.t (k := k2 st.role (stepAt m x).role) R3.kd upd_same, _, rfl, ifB (fun e3 => ?_) fun e3 => iteF (nx _ s3 ?_)⟩⟩⟩
      · rw [kd_apart] at e3
        refine ⟨_, rfl, _, rfl, _, rfl, _, _, ac, b, g, rfl, R3.act hx hac, fun H4 s4 => ⟨_, rfl, ifB (fun e4 => ?_) fun e4 => nx _ (s3.trans s4) (by rw [e4, Bool.and_false])⟩⟩
        have ek : inApart m x b g = true := any_of hac (by rw [est, e3, e4]; rfl)
        rw [ek] at k
        exact k _ ((sm.trans s3).trans s4)
      · rw [kd_apart] at e3
        rw [e3, Bool.false_and]
    · rintro σ H' ⟨sm, ⟨v3, rfl⟩, hno⟩
      rw [refs_len, List.take_length] at hno
      have ek : inApart m x b g = false := hno
      rw [ek] at k
      exact k _ sm
theorem ok_refusal_to_act (F : Fun K "refusal_to_act" "refusal_to_act" s_refusal_to_act f fd) (T : Txt K mg C.P C.S C.A C.X C.O) (g_current_step : Cal P w K mg base 1 "current_step" p_current_step (sp_current_step C))
    (g_stands_for : Cal P w K mg base 1 "stands_for" p_stands_for (sp_stands_for C)) (g_is_entitled : Cal P w K mg base 2 "is_entitled" p_is_entitled (sp_is_entitled C))
    (g_acted_in_this_round : Cal P w K mg base 2 "acted_in_this_round" p_acted_in_this_round (sp_in_round C)) (g_acted_in_a_role_kept_apart : Cal P w K mg base 2 "acted_in_a_role_kept_apart" p_acted_in_a_role_kept_apart (sp_in_apart C)) :
    FnOk P w K mg base CX0 3 f fd p_refusal_to_act (sp_refusal C) := by
  refine F.ok sc_refusal_to_act (fun vs H Q E h => ?_) (fun cdv A outer s H vs Q E hr h => ?_)
  · obtain ⟨L, m, kk, x, b, g, rfl, _⟩ := h
    rfl
  · obtain ⟨L, m, kk, x, b, g, rfl, R, W, hx, hg, k⟩ := h
    refine ⟨_, (pss_cons (ps_if (pt_cmpR op_ne (pe_fld (pv 3) rfl) (pe_cst rfl T.c_UNDER_WAY) (nomark _)) (pss_one (ps_ret (pe_cst rfl T.c_TOO_LATE))) pss_nil)
      (pss_cons (ps_set (i := 4) sc_refusal_to_act.nd rfl (Or.inl rfl) (pe_callC g_current_step (hr.mono (by decide)) rfl (pa_cons (pv 0) (pa_cons (pv 3) pa_nil))))
      (pss_cons (ps_if (pt_not (pt_val (pe_callC g_stands_for (hr.mono (by decide)) rfl (pa_cons (pv 0) (pa_cons (pv 1) (pa_cons (pv 2) pa_nil)))))) (pss_one (ps_ret (pe_cst rfl T.c_NOT_STANDING_IN))) pss_nil)
      (pss_cons (ps_if (pt_not (pt_val (pe_callC g_is_entitled (hr.mono (by decide)) rfl (pa_cons (pv 0) (pa_cons (pv 2) (pa_cons (pe_fld (pv 4) rfl) (pa_cons (pe_fld (pv 3) rfl) pa_nil))))))) (pss_one (ps_ret (pe_cst rfl T.c_NOT_ENTITLED))) pss_nil)
      (pss_cons (ps_if (PW.pt (pw_and (pt_cmpR op_eq (pe_fld (pv 4) rfl) pe_int (nomark _)) (pw_and1 (pt_cmpR op_in_seq (pe_fld (pv 3) rfl) (pe_tup (pa_cons (pv 1) (pa_cons (pv 2) pa_nil))) rfl)))) (pss_one (ps_ret (pe_cst rfl T.c_WRITER_MAY_NOT))) pss_nil)
      (pss_cons (ps_if (pt_val (pe_callC g_acted_in_this_round (hr.mono (by decide)) rfl (pa_cons (pv 3) (pa_cons (pv 1) (pa_cons (pv 2) pa_nil))))) (pss_one (ps_ret (pe_cst rfl T.c_ACTED_IN_THIS_ROUND))) pss_nil)
      (pss_cons (ps_if (pt_val (pe_callC g_acted_in_a_role_kept_apart (hr.mono (by decide)) rfl (pa_cons (pv 0) (pa_cons (pv 3) (pa_cons (pv 1) (pa_cons (pv 2) pa_nil)))))) (pss_one (ps_ret (pe_cst rfl T.c_ACTED_IN_A_ROLE_KEPT_APART))) pss_nil)
      (pss_one (ps_ret pe_int))))))))), ?_⟩
    have X := W.papN hx
    have S := has_step W X
    have St := W.stp1 X
    unfold refusal at k
    refine ⟨_, rfl, ⟨_, _, _, _, _, rfl, ((R.pap hx)), T.k_Paper, T.n_Paper_state, l_X_state, ⟨rfl, _, rfl, ifNe (fun c1 => ?_) fun c1 => ?_⟩⟩⟩
    · rw [if_pos c1] at k
      exact k _ (Same.refl _)
    rw [if_neg (fun q => q c1)] at k
    refine ⟨_, rfl, _, rfl, L, m, _, _, _, x, _, _, rfl, R.rp, R.pap hx, S, ?_⟩
    refine ⟨_, rfl, _, rfl, _, rfl, L, m, b, g, rfl, R, hg, _, rfl, ifNot (fun c2 => ?_) fun c2 => ?_⟩
    · rw [if_pos c2] at k
      exact k _ (Same.refl _)
    rw [if_neg (by rw [c2]; exact Bool.noConfusion)] at k
    refine ⟨_, rfl, _, rfl, _, rfl, ⟨_, _, _, _, _, rfl, ((R.stp S.l S.s)), T.k_Step, T.n_Step_role, l_S_role, ⟨_, rfl, ⟨_, _, _, _, _, rfl, ((R.pap hx)), T.k_Paper, T.n_Paper_level, l_X_level, ⟨L, m, g, _, _, rfl, R, W, St.r0, X.l0, fun H2 s2 => ⟨_, rfl, ifNot (fun c3 => ?_) fun c3 => ?_⟩⟩⟩⟩⟩⟩
    · rw [if_pos c3] at k
      exact k _ s2
    rw [if_neg (by rw [c3]; exact Bool.noConfusion)] at k
    have R2 := R.same s2
    refine ⟨_, rfl, ⟨_, _, _, _, _, rfl, ((R2.stp S.l S.s)), T.k_Step, T.n_Step_writer_may_sign, l_S_writer_may_sign, ⟨rfl, _, rfl, ifEq (fun c4 => ?_) fun c4 => iteF ?_⟩⟩⟩
    · refine ⟨_, rfl, ⟨_, _, _, _, _, rfl, ((R2.pap hx)), T.k_Paper, T.n_Paper_writer, l_X_writer, ⟨_, rfl, _, rfl, (by show 2 ≤ sizeLine; decide), fun t ht => rd_in2 upd_same ⟨_, rfl, ifB (fun c5 => ?_) fun c5 => ?_⟩⟩⟩⟩
      · have c5' : x.writer = b ∨ x.writer = g := by
          rw [Bool.or_eq_true, decide_eq_true_eq, decide_eq_true_eq] at c5
          exact c5
        rw [if_pos ⟨c4, c5'⟩] at k
        exact k _ (s2.trans (same_new (o := .tup [.int b, .int g]) ht))
      · have c5' : ¬ (x.writer = b ∨ x.writer = g) := fun q => by
          have : (decide (x.writer = b) || decide (x.writer = g)) = true := by rw [Bool.or_eq_true, decide_eq_true_eq, decide_eq_true_eq]; exact q
          rw [this] at c5
          cases c5
        rw [if_neg fun q => c5' q.2] at k
        have R3 := R.same (s2.trans (same_new (o := .tup [.int b, .int g]) ht))
        refine ⟨_, rfl, _, rfl, _, rfl, L, m, kk, x, b, g, rfl, R3, hx, fun H4 s4 => ⟨_, rfl, ifB (fun c5 => ?_) fun c5 => ?_⟩⟩
        · rw [if_pos c5] at k
          exact k _ (Same.trans ((s2.trans (same_new (o := .tup [.int b, .int g]) ht))) s4)
        rw [if_neg (by rw [c5]; exact Bool.noConfusion)] at k
        refine ⟨_, rfl, _, rfl, _, rfl, _, rfl, L, m, kk, x, b, g, rfl, R3.same s4, W, hx, fun H5 s5 => ⟨_, rfl, ifB (fun c6 => ?_) fun c6 => ?_⟩⟩
        · rw [if_pos c6] at k
          exact k _ ((Same.trans ((s2.trans (same_new (o := .tup [.int b, .int g]) ht))) s4).trans s5)
        rw [if_neg (by rw [c6]; exact Bool.noConfusion)] at k
        exact k _ ((Same.trans ((s2.trans (same_new (o := .tup [.int b, .int g]) ht))) s4).trans s5)
    · rw [if_neg fun q => c4 q.1] at k
      have R3 := R.same s2
      refine ⟨_, rfl, _, rfl, _, rfl, L, m, kk, x, b, g, rfl, R3, hx, fun H4 s4 => ⟨_, rfl, ifB (fun c5 => ?_) fun c5 => ?_⟩⟩
      · rw [if_pos c5] at k
        exact k _ (Same.trans (s2) s4)
      rw [if_neg (by rw [c5]; exact Bool.noConfusion)] at k
      refine ⟨_, rfl, _, rfl, _, rfl, _, rfl, L, m, kk, x, b, g, rfl, R3.same s4, W, hx, fun H5 s5 => ⟨_, rfl, ifB (fun c6 => ?_) fun c6 => ?_⟩⟩
      · rw [if_pos c6] at k
        exact k _ ((Same.trans (s2) s4).trans s5)
      rw [if_neg (by rw [c6]; exact Bool.noConfusion)] at k
      exact k _ ((Same.trans (s2) s4).trans s5)
end
end Po
namespace Po
open PySem L2
/-! ### a paper by itself -/
def rise (m : Off) (x : Pap) : Pap := if x.level < 5 then { x with level := x.level + 1, due := m.today + (stepAt m x).days } else { x with state := 4 }
/-- what a call that changes the office is to reach -/
def Wants (C : Cl) (L : Lay) (H : Hp) (m : Off) (Q : VK) (r : Off × Int) : Prop := ∀ L' H', Grows C L H m L' H' r.1 → Q (.int r.2) H'
def sp_rise (C : Cl) : Sp := fun vs H Q _ => ∃ (L : Lay) (m : Off) (a dx l : Addr) (x : Pap) (ls : List Stp) (s : Stp), vs = [.ref (L.ad .off), .ref a] ∧ PapAt C L H m a dx l x ∧ HasStep m x ls s ∧ Q .non (upd H a (.ins C.X dx (papF l (rise m x))))
def sp_come_to (C : Cl) : Sp := fun vs H Q _ => ∃ (L : Lay) (m : Off) (a dx l : Addr) (x : Pap) (n : Int) (ls : List Stp) (s : Stp), vs = [.ref (L.ad .off), .ref a, .int n] ∧ PapAt C L H m a dx l x ∧ HasStep m { x with step := n } ls s ∧
  Q .non (upd H a (.ins C.X dx (papF l (comes m x n))))
def sp_go_on (C : Cl) : Sp := fun vs H Q _ => ∃ (L : Lay) (m : Off) (a dx l : Addr) (x : Pap) (ls : List Stp) (s : Stp), vs = [.ref (L.ad .off), .ref a] ∧ PapAt C L H m a dx l x ∧ HasStep m x ls s ∧ Q .non (upd H a (.ins C.X dx (papF l (goOn m x))))
def sp_go_back (C : Cl) : Sp := fun vs H Q _ => ∃ (L : Lay) (m : Off) (a dx l : Addr) (x : Pap) (ls : List Stp) (s : Stp), vs = [.ref (L.ad .off), .ref a] ∧ PapAt C L H m a dx l x ∧ HasStep m x ls s ∧ (s.back = -1 ∨ (0 ≤ s.back ∧ s.back < ls.length)) ∧
  Q .non (upd H a (.ins C.X dx (papF l (goBack m x))))
def sp_pass_one_day (C : Cl) : Sp := fun vs H Q _ => ∃ (L : Lay) (m : Off), vs = [.ref (L.ad .off)] ∧ Rep C L H m ∧ WOff m ∧ ∀ L' H', Grows C L H m L' H' (day m) → Q .non H'
def sp_pass_days (C : Cl) : Sp := fun vs H Q _ => ∃ (L : Lay) (m : Off) (n : Int), vs = [.ref (L.ad .off), .int n] ∧ Rep C L H m ∧ WOff m ∧ Wants C L H m Q (mDays m n)
def sp_be_away (C : Cl) : Sp := fun vs H Q _ => ∃ (L : Lay) (m : Off) (p t u : Int), vs = [.ref (L.ad .off), .int p, .int t, .int u] ∧ Rep C L H m ∧ Wants C L H m Q (mAway m p t u)
def sp_be_back (C : Cl) : Sp := fun vs H Q _ => ∃ (L : Lay) (m : Off) (p : Int), vs = [.ref (L.ad .off), .int p] ∧ Rep C L H m ∧ Wants C L H m Q (mBack m p (backTill m p))
def sp_give_roles (C : Cl) : Sp := fun vs H Q _ => ∃ (L : Lay) (m : Off) (p r : Int), vs = [.ref (L.ad .off), .int p, .int r] ∧ Rep C L H m ∧ Wants C L H m Q (mRoles m p r)
def sp_add_person (C : Cl) : Sp := fun vs H Q _ => ∃ (L : Lay) (m : Off) (r c : Int), vs = [.ref (L.ad .off), .int r, .int c] ∧ Rep C L H m ∧ WOff m ∧ Wants C L H m Q (mPerson m r c)
def sp_may_be_chief (C : Cl) : Sp := fun vs H Q _ => ∃ (L : Lay) (m : Off) (z : Int), vs = [.ref (L.ad .off), .int z] ∧ Rep C L H m ∧ Q (.bl (decide (z = -1) || has m.people.length z)) H
def sp_keep_apart (C : Cl) : Sp := fun vs H Q _ => ∃ (L : Lay) (m : Off) (r s : Int), vs = [.ref (L.ad .off), .int r, .int s] ∧ Rep C L H m ∧ m.apart.length ≤ 350 ∧ Wants C L H m Q (mApart m r s)
def sp_file_paper (C : Cl) : Sp := fun vs H Q _ => ∃ (L : Lay) (m : Off) (p r : Int), vs = [.ref (L.ad .off), .int p, .int r] ∧ Rep C L H m ∧ WOff m ∧ Wants C L H m Q (mFile m p r)
def sp_note_act (C : Cl) : Sp := fun vs H Q _ => ∃ (L : Lay) (m : Off) (k : Nat) (x : Pap) (b f s : Int), vs = [.ref (L.ad (.pap k)), .int b, .int f, .int s] ∧ Rep C L H m ∧ m.papers[k]? = some x ∧ x.acts.length ≤ 350 ∧
  ∀ L' H', Grows C L H m L' H' { m with papers := m.papers.set k (noted x b f s) } → Q .non H'
def sp_sign (C : Cl) : Sp := fun vs H Q _ => ∃ (L : Lay) (m : Off) (b f k : Int), vs = [.ref (L.ad .off), .int b, .int f, .int k] ∧ Rep C L H m ∧ WOff m ∧ AB m 350 ∧ Wants C L H m Q (mSign m b f k)
def sp_refuse (C : Cl) : Sp := fun vs H Q _ => ∃ (L : Lay) (m : Off) (b f k : Int), vs = [.ref (L.ad .off), .int b, .int f, .int k] ∧ Rep C L H m ∧ WOff m ∧ AB m 350 ∧ Wants C L H m Q (mRefuse m b f k)
def sp_withdraw (C : Cl) : Sp := fun vs H Q _ => ∃ (L : Lay) (m : Off) (b k : Int), vs = [.ref (L.ad .off), .int b, .int k] ∧ Rep C L H m ∧ Wants C L H m Q (mWithdraw m b k)
section
variable {C : Cl} {L : Lay} {H : Hp} {m : Off} {Q : VK}
theorem Wants.no {r : Off × Int} {v : Int} {H' : Hp} (h : Wants C L H m Q r) (R : Rep C L H m) (e : r = (m, v)) (s : Same H H') : Q (.int v) H' := by
  subst e
  exact h L H' (Grows.refl R s)
theorem Wants.yes {r : Off × Int} {m' : Off} {v : Int} {L' : Lay} {H' : Hp} (h : Wants C L H m Q r) (e : r = (m', v)) (G : Grows C L H m L' H' m') : Q (.int v) H' := by
  subst e
  exact h L' H' G
end
section
variable {P : Program} {w : World} {K : PySem.W.Frag} {mg : Str → Option Value} {base : Heap} {C : Cl} {f : Addr} {fd : FuncData}
theorem ok_may_act (F : Fun K "may_act" "may_act" s_may_act f fd) (T : Txt K mg C.P C.S C.A C.X C.O) (g_has : Cal P w K mg base 1 "has" p_has (sp_has K)) (g_refusal_to_act : Cal P w K mg base 3 "refusal_to_act" p_refusal_to_act (sp_refusal C)) :
    FnOk P w K mg base CX0 4 f fd p_may_act (sp_may_act C) := by
  refine F.ok sc_may_act (fun vs H Q E h => ?_) (fun cdv A outer s H vs Q E hr h => ?_)
  · obtain ⟨L, m, b, g, z, rfl, _⟩ := h
    rfl
  · obtain ⟨L, m, b, g, z, rfl, R, W, k⟩ := h
    refine ⟨_, (pss_cons (ps_if (PW.pt (pw_or (pt_not (pt_val (pe_callC g_has (hr.mono (by decide)) rfl (pa_cons (pe_fld (pv 0) rfl) (pa_cons (pv 1) pa_nil))))) (pw_or (pt_not (pt_val (pe_callC g_has (hr.mono (by decide)) rfl (pa_cons (pe_fld (pv 0) rfl) (pa_cons (pv 2) pa_nil))))) (pw_or1 (pt_not (pt_val (pe_callC g_has (hr.mono (by decide)) rfl (pa_cons (pe_fld (pv 0) rfl) (pa_cons (pv 3) pa_nil))))))))) (pss_one (ps_ret (pe_cst rfl T.c_NOT_ONE_THAT_MAY_BE))) pss_nil)
      (pss_one (ps_ret (pe_callC g_refusal_to_act (hr.mono (by decide)) rfl (pa_cons (pv 0) (pa_cons (pv 1) (pa_cons (pv 2) (pa_cons (pe_ix ix_list (pe_fld (pv 0) rfl) (pv 3) (fun _ _ => rfl)) pa_nil)))))))), ?_⟩
    have no : (has m.people.length b && has m.people.length g && has m.papers.length z) = false → Q (.int (-2)) H := fun e => by
      have e2 : tryAct m b g z = -2 := by unfold tryAct; rw [if_pos e]
      rw [e2] at k
      exact k _ (Same.refl _)
    refine ⟨_, rfl, ⟨_, _, _, _, _, rfl, (R.off), T.k_Office, T.n_Office_people, l_O_people, ⟨_, rfl, ⟨_, _, _, _, rfl, SqL.of R.ppl, refs_len _ _, ⟨_, rfl, ifNot (fun c1 => iteT (no (by rw [c1]; rfl))) fun c1 => ?_⟩⟩⟩⟩⟩
    refine ⟨_, rfl, ⟨_, _, _, _, _, rfl, (R.off), T.k_Office, T.n_Office_people, l_O_people, ⟨_, rfl, ⟨_, _, _, _, rfl, SqL.of R.ppl, refs_len _ _, ⟨_, rfl, ifNot (fun c2 => iteT (no (by rw [c2, Bool.and_false]; rfl))) fun c2 => ?_⟩⟩⟩⟩⟩
    refine ⟨_, rfl, ⟨_, _, _, _, _, rfl, (R.off), T.k_Office, T.n_Office_papers, l_O_papers, ⟨_, rfl, ⟨_, _, _, _, rfl, SqL.of R.pal, refs_len _ _, ⟨_, rfl, ifNot (fun c3 => no (by rw [c3, Bool.and_false])) fun c3 => ?_⟩⟩⟩⟩⟩
    refine ⟨_, rfl, _, rfl, _, rfl, _, rfl, ⟨_, _, _, _, _, rfl, (R.off), T.k_Office, T.n_Office_papers, l_O_papers, ⟨_, rfl, R.ixPap c3 ⟨L, m, z.toNat, pap m z, b, g, rfl, R, W, has_pap c3, c2, fun H2 s2 => ?_⟩⟩⟩⟩
    have e2 : tryAct m b g z = refusal m b g (pap m z) := by unfold tryAct; rw [if_neg (by rw [c1, c2, c3]; exact Bool.noConfusion)]
    rw [e2] at k
    exact k _ s2
theorem ok_may_act_for_themselves (F : Fun K "may_act_for_themselves" "may_act_for_themselves" s_may_act_for_themselves f fd) (T : Txt K mg C.P C.S C.A C.X C.O) (g_refusal_to_act : Cal P w K mg base 3 "refusal_to_act" p_refusal_to_act (sp_refusal C)) :
    FnOk P w K mg base CX0 4 f fd p_may_act_for_themselves (sp_themselves C) := by
  refine F.ok sc_may_act_for_themselves (fun vs H Q E h => ?_) (fun cdv A outer s H vs Q E hr h => ?_)
  · obtain ⟨L, m, kk, x, b, rfl, _⟩ := h
    rfl
  · obtain ⟨L, m, kk, x, b, rfl, R, W, hx, hb, k⟩ := h
    refine ⟨_, (pss_one (ps_ret (pe_cmpR op_eq (pe_callC g_refusal_to_act (hr.mono (by decide)) rfl (pa_cons (pv 0) (pa_cons (pv 1) (pa_cons (pv 1) (pa_cons (pv 2) pa_nil))))) pe_int (nomark _)))), ?_⟩
    refine ⟨_, rfl, _, rfl, _, rfl, _, rfl, L, m, kk, x, b, b, rfl, R, W, hx, hb, fun H2 s2 => ⟨rfl, ?_⟩⟩
    have k2 := k _ s2
    rw [← decV] at k2
    exact k2
theorem cnt_take {l : List Ac} {i : Nat} {a : Ac} (h : l[i]? = some a) (s t : Int) : cnt (l.take (i + 1)) s t = cnt (l.take i) s t + if a.signed = 1 ∧ a.step = s ∧ a.turn = t then 1 else 0 := by
  rw [List.take_add_one, h]
  exact cnt_snoc _ _ _ _
theorem ok_signatures_in_this_round (F : Fun K "signatures_in_this_round" "signatures_in_this_round" s_signatures_in_this_round f fd) (T : Txt K mg C.P C.S C.A C.X C.O) : FnOk P w K mg base CX0 1 f fd p_signatures_in_this_round (sp_sigs C) := by
  refine F.ok sc_signatures_in_this_round (fun vs H Q E h => ?_) (fun cdv A outer s H vs Q E hr h => ?_)
  · obtain ⟨L, m, kk, x, rfl, _⟩ := h
    rfl
  · obtain ⟨L, m, kk, x, rfl, R, W, hx, hlen, k⟩ := h
    refine ⟨_, (pss_one (ps_ret (pe_callB (cr_sum rfl) (by rfl) T.b_sum PyProof.Rows.boot_sum (pa_cons (pe_lc (own := [("act", 1)]) rfl sc_signatures_in_this_round.nd (pi_list (pe_fld (pv 0) rfl)) (blkOk_by (N := ["paper", "act"]) (sc := defScope s_signatures_in_this_round) (by decide +kernel)) (fun _ _ _ _ _ => (pg_name (i := 1) sc_signatures_in_this_round.nd rfl (Or.inl rfl))) (fun _ _ _ _ _ => pts_one (PW.pt (pw_and (pt_cmpR op_eq (pe_fldK (K := K) rfl (pv 1) rfl) (pe_fldK (K := K) rfl (pv 0) rfl) (nomark _)) (pw_and1 (pt_cmpR op_eq (pe_fldK (K := K) rfl (pv 1) rfl) (pe_fldK (K := K) rfl (pv 0) rfl) (nomark _)))))) (fun _ _ _ _ _ => (pe_fldK (K := K) rfl (pv 1) rfl))) pa_nil)))), ?_⟩
    refine ⟨_, rfl, ⟨_, _, _, _, _, rfl, ((R.pap hx)), T.k_Paper, T.n_Paper_acts, l_X_acts, ⟨_, rfl, ⟨_, SqL.of (R.acl hx)⟩, fun D hD => lc_list (K := K) (xs := refs (fun j => L.ad (.act kk j)) x.acts.length)
      (fun i H' => ∃ ns : List Int, H' D = some (.lst (ns.map V.int)) ∧ Same H H' ∧ ns.sum = ((cnt (x.acts.take i) x.step x.turn : Nat) : Int) ∧ ns.length ≤ i)
      ⟨[], upd_same, same_new hD, rfl, Nat.le_refl _⟩ (fun i H' _ ⟨_, _, q, _⟩ => q.seq (SqL.of (R.acl hx))) ?_ ?_⟩⟩⟩
    · rintro i v H' hi ⟨ns, hDD, sm, es, hl⟩
      obtain ⟨hlt, rfl⟩ := refs_get hi
      obtain ⟨ac, hac⟩ := get_of_lt hlt
      have R2 := R.same sm
      have ha := R2.act hx hac
      have hp := R2.pap hx
      have Aw := W ac (List.mem_of_getElem? hac)
      have no : ¬ (ac.step = x.step ∧ ac.turn = x.turn) → ∃ ns : List Int, H' D = some (.lst (ns.map V.int)) ∧ Same H H' ∧ ns.sum = ((cnt (x.acts.take (i + 1)) x.step x.turn : Nat) : Int) ∧ ns.length ≤ i + 1 := fun z =>
        ⟨ns, hDD, sm, by rw [cnt_take hac, if_neg fun q => z q.2]; exact es, by omega⟩
      refine ⟨rfl, _, rfl, ⟨_, _, _, _, _, rfl, (ha), T.k_Act, T.n_Act_step, l_A_step, ⟨_, rfl, ⟨_, _, _, _, _, rfl, (hp), T.k_Paper, T.n_Paper_step, l_X_step, ⟨rfl, _, rfl, ifEq (fun e1 => ?_) fun e1 => iteF (no fun q => e1 q.1)⟩⟩⟩⟩⟩
      refine ⟨_, rfl, ⟨_, _, _, _, _, rfl, (ha), T.k_Act, T.n_Act_turn, l_A_turn, ⟨_, rfl, ⟨_, _, _, _, _, rfl, (hp), T.k_Paper, T.n_Paper_turn, l_X_turn, ⟨rfl, _, rfl, ifEq (fun e2 => ?_) fun e2 => no fun q => e2 q.2⟩⟩⟩⟩⟩
      refine ⟨_, rfl, ⟨_, _, _, _, _, rfl, (ha), T.k_Act, T.n_Act_signed, l_A_signed, ⟨_, hDD, ?_, ns ++ [ac.signed], ?_, ?_, ?_, ?_⟩⟩⟩
      · rw [List.length_map]
        exact Nat.lt_of_le_of_lt hl (Nat.lt_of_lt_of_le hlt (Nat.le_trans hlen (by decide)))
      · rw [upd_same, List.map_append]
        rfl
      · intro b o e
        rw [upd_ne (ne_of_none e hD)]
        exact sm b o e
      · rw [cnt_take hac, List.sum_append, es]
        show _ + (ac.signed + 0) = _
        rcases Aw with q | q
        · rw [if_neg fun z => by rw [q] at z; exact absurd z.1 (by decide), q]
          omega
        · rw [if_pos ⟨q, e1, e2⟩, q]
          omega
      · rw [List.length_append]
        show ns.length + 1 ≤ i + 1
        omega
    · rintro H' ⟨ns, hDD, sm, es, hl⟩
      refine ⟨D, ns, rfl, SqL.of hDD, ?_⟩
      rw [refs_len, List.take_length] at es
      rw [es]
      exact k _ sm
/-! ### a paper by itself -/
theorem ok_rise_or_lapse (F : Fun K "rise_or_lapse" "rise_or_lapse" s_rise_or_lapse f fd) (T : Txt K mg C.P C.S C.A C.X C.O) (g_due_from_today : Cal P w K mg base 2 "due_from_today" p_due_from_today (sp_due C)) :
    FnOk P w K mg base CX0 3 f fd p_rise_or_lapse (sp_rise C) := by
  refine F.ok sc_rise_or_lapse (fun vs H Q E h => ?_) (fun cdv A outer s H vs Q E hr h => ?_)
  · obtain ⟨L, m, a, dx, l, x, ls, st, rfl, _⟩ := h
    rfl
  · obtain ⟨L, m, a, dx, l, x, ls, st, rfl, PA, S, k⟩ := h
    refine ⟨_, (pss_one (ps_if (pt_cmpR op_lt (pe_fld (pv 1) rfl) (pe_cst rfl T.c_HIGHEST_LEVEL) (nomark _)) (pss_cons (ps_fld (pv 1) (pe_op op_add (pe_fld (pv 1) rfl) pe_int) rfl)
      (pss_one (ps_fld (pv 1) (pe_callC g_due_from_today (hr.mono (by decide)) rfl (pa_cons (pv 0) (pa_cons (pv 1) pa_nil))) rfl))) (pss_one (ps_fld (pv 1) (pe_cst rfl T.c_LAPSED) rfl)))), ?_⟩
    unfold rise at k
    refine ⟨_, rfl, ⟨_, _, _, _, _, rfl, (PA.at_), T.k_Paper, T.n_Paper_level, l_X_level, ⟨_, _, rfl, rfl, _, rfl, ifP (fun h => ?_) fun h => ?_⟩⟩⟩
    · rw [if_pos h, S.at_.1] at k
      refine ⟨_, rfl, ⟨_, _, _, _, _, rfl, (PA.at_), T.k_Paper, T.n_Paper_level, l_X_level, ⟨_, _, rfl, rfl, _, rfl, T.wX_level PA.at_ ?_⟩⟩⟩
      have P2 := PA.upd (y := { x with level := x.level + 1 })
      refine ⟨_, rfl, _, rfl, L, m, a, dx, l, { x with level := x.level + 1 }, ls, st, rfl, P2.rp, P2.at_, ⟨S.p0, S.s0, S.l, S.s⟩, _, rfl, T.wX_due P2.at_ ?_⟩
      show Q .non _
      rw [upd_upd]
      exact k
    · rw [if_neg h] at k
      exact ⟨_, rfl, T.wX_state PA.at_ k⟩
theorem ok_come_to (F : Fun K "come_to" "come_to" s_come_to f fd) (T : Txt K mg C.P C.S C.A C.X C.O) (g_due_from_today : Cal P w K mg base 2 "due_from_today" p_due_from_today (sp_due C)) :
    FnOk P w K mg base CX0 3 f fd p_come_to (sp_come_to C) := by
  refine F.ok sc_come_to (fun vs H Q E h => ?_) (fun cdv A outer s H vs Q E hr h => ?_)
  · obtain ⟨L, m, a, dx, l, x, n, ls, st, rfl, _⟩ := h
    rfl
  · obtain ⟨L, m, a, dx, l, x, n, ls, st, rfl, PA, S, k⟩ := h
    refine ⟨_, (pss_cons (ps_fld (pv 1) (pv 2) rfl)
      (pss_cons (ps_fld (pv 1) pe_int rfl)
      (pss_one (ps_fld (pv 1) (pe_callC g_due_from_today (hr.mono (by decide)) rfl (pa_cons (pv 0) (pa_cons (pv 1) pa_nil))) rfl)))), ?_⟩
    unfold comes at k
    rw [S.at_.1] at k
    refine ⟨_, rfl, _, rfl, T.wX_step PA.at_ ?_⟩
    have P2 := PA.upd (y := { x with step := n })
    refine ⟨_, rfl, T.wX_level P2.at_ ?_⟩
    have P3 := P2.upd (y := { x with step := n, level := 0 })
    refine ⟨_, rfl, _, rfl, L, m, a, dx, l, { x with step := n, level := 0 }, ls, st, rfl, P3.rp, P3.at_, ⟨S.p0, S.s0, S.l, S.s⟩, _, rfl, T.wX_due P3.at_ ?_⟩
    show Q .non _
    rw [upd_upd, upd_upd]
    exact k
theorem ok_go_on (F : Fun K "go_on" "go_on" s_go_on f fd) (T : Txt K mg C.P C.S C.A C.X C.O) (g_come_to : Cal P w K mg base 3 "come_to" p_come_to (sp_come_to C)) :
    FnOk P w K mg base CX0 4 f fd p_go_on (sp_go_on C) := by
  refine F.ok sc_go_on (fun vs H Q E h => ?_) (fun cdv A outer s H vs Q E hr h => ?_)
  · obtain ⟨L, m, a, dx, l, x, ls, st, rfl, _⟩ := h
    rfl
  · obtain ⟨L, m, a, dx, l, x, ls, st, rfl, PA, S, k⟩ := h
    refine ⟨_, (pss_one (ps_if (pt_cmpR op_eq (pe_op op_add (pe_fld (pv 1) rfl) pe_int) (pe_callB call_len_seq (by rfl) T.b_len PySem.boot_len (pa_cons (pe_ix ix_list (pe_fld (pv 0) rfl) (pe_fld (pv 1) rfl) (fun _ _ => rfl)) pa_nil)) (nomark _)) (pss_one (ps_fld (pv 1) (pe_cst rfl T.c_APPROVED) rfl)) (pss_one (ps_expr (pe_callC g_come_to (hr.mono (by decide)) rfl (pa_cons (pv 0) (pa_cons (pv 1) (pa_cons (pe_op op_add (pe_fld (pv 1) rfl) pe_int) pa_nil)))))))), ?_⟩
    unfold goOn at k
    rw [S.at_.2] at k
    have e1 : x.proc.toNat < m.procs.length := lt_of_get S.l
    refine ⟨_, rfl, ⟨_, _, _, _, _, rfl, (PA.at_), T.k_Paper, T.n_Paper_step, l_X_step, ⟨_, _, rfl, rfl, _, rfl, ⟨_, _, _, _, _, rfl, (PA.rp.off), T.k_Office, T.n_Office_procedures, l_O_procedures, ⟨_, rfl, ⟨_, _, _, _, _, rfl, (PA.at_), T.k_Paper, T.n_Paper_procedure, l_X_procedure, (rd_ix (SqL.of PA.rp.prl) (Int.toNat_of_nonneg S.p0).symm (refs_at e1) ⟨_, _, rfl, .inl (SqL.of (PA.rp.prc S.l)), rfl, _, rfl, ?_⟩)⟩⟩⟩⟩⟩⟩
    rw [refs_len]
    refine ifEq (fun h => ?_) fun h => ?_
    · rw [if_pos h] at k
      exact ⟨_, rfl, T.wX_state PA.at_ k⟩
    · rw [if_neg h] at k
      have hs := S.lt
      have hs0 := S.s0
      obtain ⟨s2, hs2⟩ := get_of_lt (show (x.step + 1).toNat < ls.length by omega)
      exact ⟨_, rfl, _, rfl, _, rfl, ⟨_, _, _, _, _, rfl, (PA.at_), T.k_Paper, T.n_Paper_step, l_X_step, ⟨_, _, rfl, rfl, L, m, a, dx, l, x, _, ls, s2, rfl, PA, ⟨S.p0, by show 0 ≤ x.step + 1; omega, S.l, hs2⟩, k⟩⟩⟩
theorem ok_go_back (F : Fun K "go_back" "go_back" s_go_back f fd) (T : Txt K mg C.P C.S C.A C.X C.O) (g_current_step : Cal P w K mg base 1 "current_step" p_current_step (sp_current_step C)) (g_come_to : Cal P w K mg base 3 "come_to" p_come_to (sp_come_to C)) :
    FnOk P w K mg base CX0 4 f fd p_go_back (sp_go_back C) := by
  refine F.ok sc_go_back (fun vs H Q E h => ?_) (fun cdv A outer s H vs Q E hr h => ?_)
  · obtain ⟨L, m, a, dx, l, x, ls, st, rfl, _⟩ := h
    rfl
  · obtain ⟨L, m, a, dx, l, x, ls, st, rfl, PA, S, hb, k⟩ := h
    refine ⟨_, (pss_cons (ps_set (i := 2) sc_go_back.nd rfl (Or.inl rfl) (pe_callC g_current_step (hr.mono (by decide)) rfl (pa_cons (pv 0) (pa_cons (pv 1) pa_nil))))
      (pss_one (ps_if (PW.pt (pw_or (pt_cmpR op_eq (pe_fld (pv 2) rfl) (pe_cst rfl T.c_NOWHERE) (nomark _)) (pw_or1 (pt_cmpR op_eq (pe_fld (pv 1) rfl) (pe_cst rfl T.c_LAST_ROUND) (nomark _))))) (pss_one (ps_fld (pv 1) (pe_cst rfl T.c_REFUSED) rfl)) (pss_cons (ps_fld (pv 1) (pe_op op_add (pe_fld (pv 1) rfl) pe_int) rfl)
      (pss_one (ps_expr (pe_callC g_come_to (hr.mono (by decide)) rfl (pa_cons (pv 0) (pa_cons (pv 1) (pa_cons (pe_fld (pv 2) rfl) pa_nil)))))))))), ?_⟩
    unfold goBack at k
    rw [S.at_.1] at k
    refine ⟨_, rfl, _, rfl, L, m, a, dx, l, x, ls, st, rfl, PA.rp, PA.at_, S, ?_⟩
    have hst := PA.rp.stp S.l S.s
    refine ⟨_, rfl, ⟨_, _, _, _, _, rfl, (hst), T.k_Step, T.n_Step_goes_back_to, l_S_goes_back_to, ⟨rfl, _, rfl, ifEq (fun h => iteT ?_) fun h => ?_⟩⟩⟩
    · rw [if_pos (.inl h)] at k
      exact ⟨_, rfl, T.wX_state PA.at_ k⟩
    · refine ⟨_, rfl, ⟨_, _, _, _, _, rfl, (PA.at_), T.k_Paper, T.n_Paper_turn, l_X_turn, ⟨rfl, _, rfl, ifEq (fun h2 => ?_) fun h2 => ?_⟩⟩⟩
      · rw [if_pos (.inr h2)] at k
        exact ⟨_, rfl, T.wX_state PA.at_ k⟩
      · rw [if_neg fun q => q.elim h h2] at k
        obtain ⟨b0, b1⟩ := hb.resolve_left h
        obtain ⟨s2, hs2⟩ := get_of_lt (show st.back.toNat < ls.length by omega)
        refine ⟨_, rfl, ⟨_, _, _, _, _, rfl, (PA.at_), T.k_Paper, T.n_Paper_turn, l_X_turn, ⟨_, _, rfl, rfl, _, rfl, T.wX_turn PA.at_ ?_⟩⟩⟩
        have P2 := PA.upd (y := { x with turn := x.turn + 1 })
        have hst2 := P2.rp.stp S.l S.s
        refine ⟨_, rfl, _, rfl, _, rfl, ⟨_, _, _, _, _, rfl, (hst2), T.k_Step, T.n_Step_goes_back_to, l_S_goes_back_to, ⟨L, m, a, dx, l, { x with turn := x.turn + 1 }, _, ls, s2, rfl, P2, ⟨S.p0, b0, S.l, hs2⟩, ?_⟩⟩⟩
        show Q .non _
        rw [upd_upd]
        exact k
/-! ### days -/
theorem days_step {l : List Pap} {g : Pap → Pap} {i : Nat} {x : Pap} (h : l[i]? = some x) : ((l.take i).map g ++ l.drop i)[i]? = some x ∧ ((l.take i).map g ++ l.drop i).set i (g x) = (l.take (i + 1)).map g ++ l.drop (i + 1) := by
  have hi : i < l.length := lt_of_get h
  have hl : ((l.take i).map g).length = i := by rw [List.length_map, List.length_take]; omega
  have hd : l.drop i = x :: l.drop (i + 1) := by
    rw [List.drop_eq_getElem_cons hi]
    have := List.getElem?_eq_getElem hi
    rw [h] at this
    rw [← Option.some.inj this]
  constructor
  · rw [List.getElem?_append_right (by rw [hl]; exact Nat.le_refl _), hl, Nat.sub_self, hd]
    rfl
  · rw [List.set_append_right _ _ (by rw [hl]; exact Nat.le_refl _), hl, Nat.sub_self, hd, List.take_add_one, h]
    show _ ++ g x :: l.drop (i + 1) = (l.take i ++ [x]).map g ++ _
    rw [List.map_append, List.append_assoc]
    rfl
theorem set_self {l : List Pap} {i : Nat} {x : Pap} (h : l[i]? = some x) : l.set i x = l := by
  refine List.ext_getElem? fun j => ?_
  by_cases e : i = j
  · subst e
    rw [List.getElem?_set_self (lt_of_get h), h]
  · rw [List.getElem?_set_ne e]
theorem late_rise (m : Off) (x : Pap) : late m x = if (decide (x.state = 0) && decide (x.due < m.today)) = true then rise m x else x := by
  by_cases h1 : x.state = 0
  · by_cases h2 : x.due < m.today
    · have e : (decide (x.state = 0) && decide (x.due < m.today)) = true := by rw [decide_eq_true h1, decide_eq_true h2]; rfl
      rw [if_pos e]
      unfold late rise
      rw [if_neg (by omega)]
    · have e : ¬ (decide (x.state = 0) && decide (x.due < m.today)) = true := by rw [decide_eq_false h2, Bool.and_false]; exact Bool.noConfusion
      rw [if_neg e]
      unfold late
      rw [if_pos (by omega)]
  · have e : ¬ (decide (x.state = 0) && decide (x.due < m.today)) = true := by rw [decide_eq_false h1]; exact Bool.noConfusion
    rw [if_neg e]
    unfold late
    rw [if_pos (.inl h1)]
theorem rise_acts (m : Off) (x : Pap) : (rise m x).acts = x.acts := by
  unfold rise
  split <;> rfl
theorem ok_pass_one_day (F : Fun K "pass_one_day" "pass_one_day" s_pass_one_day f fd) (T : Txt K mg C.P C.S C.A C.X C.O) (g_is_late : Cal P w K mg base 1 "is_late" p_is_late (sp_is_late C)) (g_rise_or_lapse : Cal P w K mg base 3 "rise_or_lapse" p_rise_or_lapse (sp_rise C)) :
    FnOk P w K mg base CX0 4 f fd p_pass_one_day (sp_pass_one_day C) := by
  refine F.ok sc_pass_one_day (fun vs H Q E h => ?_) (fun cdv A outer s H vs Q E hr h => ?_)
  · obtain ⟨L, m, rfl, _⟩ := h
    rfl
  · obtain ⟨L, m, rfl, R, W, k⟩ := h
    refine ⟨_, (pss_cons (ps_fld (pv 0) (pe_op op_add (pe_fld (pv 0) rfl) pe_int) rfl)
      (pss_one (ps_for PassesOwn.never rfl (pi_list (pe_fld (pv 0) rfl)) (pg_name (i := 1) sc_pass_one_day.nd rfl (Or.inl rfl)) (pss_one (ps_if (pt_val (pe_callC g_is_late (hr.mono (by decide)) rfl (pa_cons (pv 0) (pa_cons (pv 1) pa_nil)))) (pss_one (ps_expr (pe_callC g_rise_or_lapse (hr.mono (by decide)) rfl (pa_cons (pv 0) (pa_cons (pv 1) pa_nil))))) pss_nil))))), ?_⟩
    refine ⟨_, rfl, ⟨_, _, _, _, _, rfl, (R.off), T.k_Office, T.n_Office_today, l_O_today, ⟨_, _, rfl, rfl, _, rfl, T.wO_today R.off ?_⟩⟩⟩
    have G1 := R.setToday (m.today + 1)
    refine ⟨_, rfl, ⟨_, _, _, _, _, rfl, (G1.R.off), T.k_Office, T.n_Office_papers, l_O_papers, ⟨_, rfl, ⟨_, SqL.of G1.R.pal⟩, for_list (K := K) (xs := refs (fun j => L.ad (.pap j)) m.papers.length)
      (fun i σ H' => (∃ v, σ = [some (.ref (L.ad .off)), v]) ∧ Grows C L H m L H' { m with today := m.today + 1, papers := (m.papers.take i).map (late { m with today := m.today + 1 }) ++ m.papers.drop i })
      ⟨⟨none, rfl⟩, G1⟩ (fun i σ H' hi q => ?_) ?_ ?_⟩⟩⟩
    · have := q.2.R.pal
      have e : ((m.papers.take i).map (late { m with today := m.today + 1 }) ++ m.papers.drop i).length = m.papers.length := by
        rw [refs_len] at hi
        rw [List.length_append, List.length_map, List.length_take, List.length_drop]
        omega
      have this2 : H' (L.ad .pal) = some (.lst (refs (fun j => L.ad (.pap j)) ((m.papers.take i).map (late { m with today := m.today + 1 }) ++ m.papers.drop i).length)) := this
      rw [e] at this2
      exact SqL.of this2
    · rintro i v σ H' hi ⟨⟨v1, rfl⟩, G⟩
      obtain ⟨hlt, rfl⟩ := refs_get hi
      obtain ⟨x, hx⟩ := get_of_lt hlt
      obtain ⟨q1, q2⟩ := days_step (g := late { m with today := m.today + 1 }) hx
      have S := has_step W (W.papN hx)
      refine ⟨_, rfl, _, rfl, L, { m with today := m.today + 1, papers := (m.papers.take i).map (late { m with today := m.today + 1 }) ++ m.papers.drop i }, _, _, _, x, rfl, G.R.off, G.R.pap q1, _, rfl, ifB (fun c => ?_) fun c => ?_⟩
      · refine ⟨_, rfl, _, rfl, L, { m with today := m.today + 1, papers := (m.papers.take i).map (late { m with today := m.today + 1 }) ++ m.papers.drop i }, _, _, _, x, _, _, rfl, G.R.papAt q1, ⟨S.p0, S.s0, S.l, S.s⟩, ⟨_, rfl⟩, ?_⟩
        have e : late { m with today := m.today + 1 } x = rise { m with today := m.today + 1, papers := (m.papers.take i).map (late { m with today := m.today + 1 }) ++ m.papers.drop i } x := by
          rw [late_rise, if_pos c]
          rfl
        have G2 := G.R.setPap q1 (y := late { m with today := m.today + 1 } x) (late_acts _ _)
        rw [e] at G2
        have G3 := G.trans G2
        rw [← e] at G3
        have q3 : ({ m with today := m.today + 1, papers := ((m.papers.take i).map (late { m with today := m.today + 1 }) ++ m.papers.drop i).set i (late { m with today := m.today + 1 } x) } : Off) = { m with today := m.today + 1, papers := (m.papers.take (i + 1)).map (late { m with today := m.today + 1 }) ++ m.papers.drop (i + 1) } := by rw [q2]
        rw [e] at G3
        rw [← q3, e]
        exact G3
      · refine ⟨⟨_, rfl⟩, ?_⟩
        have e : late { m with today := m.today + 1 } x = x := by
          rw [late_rise, if_neg (by rw [c]; exact Bool.noConfusion)]
        rw [e, set_self q1] at q2
        rw [← q2]
        exact G
    · rintro σ H' ⟨⟨v1, rfl⟩, G⟩
      refine k L H' ?_
      rw [refs_len, List.take_length, List.drop_length, List.append_nil] at G
      exact G
theorem days_succ : ∀ (n : Nat) (m : Off), days m (n + 1) = day (days m n)
  | 0, _ => rfl
  | n + 1, m => by
    show days (day m) (n + 1) = day (days (day m) n)
    exact days_succ n (day m)
theorem ok_pass_days (F : Fun K "pass_days" "pass_days" s_pass_days f fd) (T : Txt K mg C.P C.S C.A C.X C.O) (g_pass_one_day : Cal P w K mg base 4 "pass_one_day" p_pass_one_day (sp_pass_one_day C)) :
    FnOk P w K mg base CX0 5 f fd p_pass_days (sp_pass_days C) := by
  refine F.ok sc_pass_days (fun vs H Q E h => ?_) (fun cdv A outer s H vs Q E hr h => ?_)
  · obtain ⟨L, m, n, rfl, _⟩ := h
    rfl
  · obtain ⟨L, m, n, rfl, R, W, k⟩ := h
    refine ⟨_, (pss_cons (ps_if (pt_not (pt_chain op_le op_le pe_int (pv 1) (pe_cst rfl T.c_MOST_DAYS_IN_ONE_CALL))) (pss_one (ps_ret (pe_cst rfl T.c_NOT_ONE_THAT_MAY_BE))) pss_nil)
      (pss_cons (ps_for PassesOwn.never rfl (pi_range1 (by rfl) T.b_range (pa_cons (pv 1) pa_nil)) (pg_name (i := 2) sc_pass_days.nd rfl (Or.inl rfl)) (pss_one (ps_expr (pe_callC g_pass_one_day (hr.mono (by decide)) rfl (pa_cons (pv 0) pa_nil)))))
      (pss_one (ps_ret (pe_fld (pv 0) rfl))))), ?_⟩
    have no : (decide (1 ≤ n) && decide (n ≤ 30)) = false → Q (.int (-2)) H := fun e => k.no R (by unfold mDays; rw [if_pos e]) (Same.refl _)
    refine ⟨_, rfl, _, _, rfl, rfl, _, rfl, ifP (fun c1 => ⟨_, _, rfl, rfl, _, rfl, ifNot (fun c2 => no (by rw [c2, Bool.and_false])) fun c2 => ?_⟩) fun c1 => ⟨_, rfl, iteT (no (by rw [decide_eq_false c1]; rfl))⟩⟩
    have c2' := of_decide_eq_true c2
    refine ⟨_, rfl, n, rfl, by omega, by omega, for_range (n := n.toNat) (fun i σ H' => (∃ v, σ = [some (.ref (L.ad .off)), some (.int n), v]) ∧ ∃ L', Grows C L H m L' H' (days m i)) ⟨⟨none, rfl⟩, L, Grows.refl R (Same.refl _)⟩ ?_ ?_⟩
    · rintro i σ H' hi ⟨⟨v, rfl⟩, L', G⟩
      refine ⟨_, rfl, L', days m i, by rw [G.off]; rfl, G.R, (abs_days i W).2, fun L2 H2 G2 => ⟨⟨_, rfl⟩, L2, ?_⟩⟩
      rw [days_succ]
      exact G.trans G2
    · rintro σ H' ⟨⟨v, rfl⟩, L', G⟩
      have ho := G.R.off
      rw [G.off] at ho
      refine ⟨_, rfl, ⟨_, _, _, _, _, rfl, (ho), T.k_Office, T.n_Office_today, l_O_today, ?_⟩⟩
      exact k.yes (by unfold mDays; rw [if_neg (by rw [decide_eq_true c1, c2]; exact Bool.noConfusion)]) G
/-! ### people -/
theorem ok_be_away (F : Fun K "be_away" "be_away" s_be_away f fd) (T : Txt K mg C.P C.S C.A C.X C.O) (g_has : Cal P w K mg base 1 "has" p_has (sp_has K)) (g_may_be_last_day : Cal P w K mg base 1 "may_be_last_day" p_may_be_last_day (sp_last_day C)) :
    FnOk P w K mg base CX0 2 f fd p_be_away (sp_be_away C) := by
  refine F.ok sc_be_away (fun vs H Q E h => ?_) (fun cdv A outer s H vs Q E hr h => ?_)
  · obtain ⟨L, m, p, t, u, rfl, _⟩ := h
    rfl
  · obtain ⟨L, m, p, t, u, rfl, R, k⟩ := h
    refine ⟨_, (pss_cons (ps_if (PW.pt (pw_or (pt_not (pt_val (pe_callC g_has (hr.mono (by decide)) rfl (pa_cons (pe_fld (pv 0) rfl) (pa_cons (pv 1) pa_nil))))) (pw_or1 (pt_not (pt_val (pe_callC g_has (hr.mono (by decide)) rfl (pa_cons (pe_fld (pv 0) rfl) (pa_cons (pv 2) pa_nil)))))))) (pss_one (ps_ret (pe_cst rfl T.c_NOT_ONE_THAT_MAY_BE))) pss_nil)
      (pss_cons (ps_if (PW.pt (pw_or (pt_cmpR op_eq (pv 2) (pv 1) (nomark _)) (pw_or1 (pt_not (pt_val (pe_callC g_may_be_last_day (hr.mono (by decide)) rfl (pa_cons (pv 0) (pa_cons (pv 3) pa_nil)))))))) (pss_one (ps_ret (pe_cst rfl T.c_NOT_ONE_THAT_MAY_BE))) pss_nil)
      (pss_cons (ps_set (i := 4) sc_be_away.nd rfl (Or.inl rfl) (pe_ix ix_list (pe_fld (pv 0) rfl) (pv 1) (fun _ _ => rfl)))
      (pss_cons (ps_fld (pv 4) (pv 2) rfl)
      (pss_cons (ps_fld (pv 4) (pv 3) rfl)
      (pss_one (ps_ret pe_int))))))), ?_⟩
    have no : (has m.people.length p && has m.people.length t && (!decide (p = t)) && (decide (m.today ≤ u) && decide (u ≤ m.today + 1000))) = false → Q (.int (-2)) H := fun e => k.no R (by unfold mAway; rw [if_pos e]) (Same.refl _)
    refine ⟨_, rfl, ⟨_, _, _, _, _, rfl, (R.off), T.k_Office, T.n_Office_people, l_O_people, ⟨_, rfl, ⟨_, _, _, _, rfl, SqL.of R.ppl, refs_len _ _, ⟨_, rfl, ifNot (fun c1 => iteT (no (by rw [c1]; rfl))) fun c1 => ?_⟩⟩⟩⟩⟩
    refine ⟨_, rfl, ⟨_, _, _, _, _, rfl, (R.off), T.k_Office, T.n_Office_people, l_O_people, ⟨_, rfl, ⟨_, _, _, _, rfl, SqL.of R.ppl, refs_len _ _, ⟨_, rfl, ifNot (fun c2 => no (by rw [c2, Bool.and_false]; rfl)) fun c2 => ?_⟩⟩⟩⟩⟩
    refine ⟨_, rfl, _, rfl, rfl, _, rfl, ifEq (fun c3 => iteT (no (by rw [decide_eq_true c3.symm, Bool.not_true, Bool.and_false]; rfl))) fun c3 => ?_⟩
    refine ⟨_, rfl, _, rfl, L, m, u, rfl, R.off, _, rfl, ifNot (fun c4 => no (by rw [c4, Bool.and_false])) fun c4 => ?_⟩
    have hp := has_per c1
    refine ⟨_, rfl, ⟨_, _, _, _, _, rfl, (R.off), T.k_Office, T.n_Office_people, l_O_people, ⟨_, rfl, R.ixPer c1 ?_⟩⟩⟩
    refine ⟨_, rfl, _, rfl, T.wP_stand_in (R.per hp) ?_⟩
    refine ⟨_, rfl, _, rfl, T.wP_stand_in_until upd_same ?_⟩
    refine k.yes (m' := setPer m p { per m p with sin := t, till := u }) (L' := L) ?_ ?_
    · unfold mAway
      rw [if_neg]
      rw [c1, c2, c4, decide_eq_false fun q => c3 q.symm]
      exact Bool.noConfusion
    · rw [upd_upd]
      exact R.setPer hp _
theorem ok_be_back (F : Fun K "be_back" "be_back" s_be_back f fd) (T : Txt K mg C.P C.S C.A C.X C.O) (g_has : Cal P w K mg base 1 "has" p_has (sp_has K)) :
    FnOk P w K mg base CX0 2 f fd p_be_back (sp_be_back C) := by
  refine F.ok sc_be_back (fun vs H Q E h => ?_) (fun cdv A outer s H vs Q E hr h => ?_)
  · obtain ⟨L, m, p, rfl, _⟩ := h
    rfl
  · obtain ⟨L, m, p, rfl, R, k⟩ := h
    refine ⟨_, (pss_cons (ps_if (pt_not (pt_val (pe_callC g_has (hr.mono (by decide)) rfl (pa_cons (pe_fld (pv 0) rfl) (pa_cons (pv 1) pa_nil))))) (pss_one (ps_ret (pe_cst rfl T.c_NOT_ONE_THAT_MAY_BE))) pss_nil)
      (pss_cons (ps_set (i := 2) sc_be_back.nd rfl (Or.inl rfl) (pe_ix ix_list (pe_fld (pv 0) rfl) (pv 1) (fun _ _ => rfl)))
      (pss_cons (ps_fld (pv 2) (pe_cst rfl T.c_NOBODY) rfl)
      (pss_one (ps_ret pe_int))))), ?_⟩
    refine ⟨_, rfl, ⟨_, _, _, _, _, rfl, (R.off), T.k_Office, T.n_Office_people, l_O_people, ⟨_, rfl, ⟨_, _, _, _, rfl, SqL.of R.ppl, refs_len _ _, ⟨_, rfl, ifNot (fun c1 => k.no R (by unfold mBack; rw [if_pos c1]) (Same.refl _)) fun c1 => ?_⟩⟩⟩⟩⟩
    have hp := has_per c1
    refine ⟨_, rfl, ⟨_, _, _, _, _, rfl, (R.off), T.k_Office, T.n_Office_people, l_O_people, ⟨_, rfl, R.ixPer c1 ?_⟩⟩⟩
    refine ⟨_, rfl, T.wP_stand_in (R.per hp) ?_⟩
    exact k.yes (m' := setPer m p { per m p with sin := -1, till := backTill m p }) (L' := L) (by unfold mBack; rw [if_neg (by rw [c1]; exact Bool.noConfusion)]) (R.setPer hp _)
theorem ok_give_roles (F : Fun K "give_roles" "give_roles" s_give_roles f fd) (T : Txt K mg C.P C.S C.A C.X C.O) (g_has : Cal P w K mg base 1 "has" p_has (sp_has K)) (g_are_roles : Cal P w K mg base 1 "are_roles" p_are_roles sp_are_roles) :
    FnOk P w K mg base CX0 2 f fd p_give_roles (sp_give_roles C) := by
  refine F.ok sc_give_roles (fun vs H Q E h => ?_) (fun cdv A outer s H vs Q E hr h => ?_)
  · obtain ⟨L, m, p, r, rfl, _⟩ := h
    rfl
  · obtain ⟨L, m, p, r, rfl, R, k⟩ := h
    refine ⟨_, (pss_cons (ps_if (PW.pt (pw_or (pt_not (pt_val (pe_callC g_has (hr.mono (by decide)) rfl (pa_cons (pe_fld (pv 0) rfl) (pa_cons (pv 1) pa_nil))))) (pw_or1 (pt_not (pt_val (pe_callC g_are_roles (hr.mono (by decide)) rfl (pa_cons (pv 2) pa_nil))))))) (pss_one (ps_ret (pe_cst rfl T.c_NOT_ONE_THAT_MAY_BE))) pss_nil)
      (pss_cons (ps_set (i := 3) sc_give_roles.nd rfl (Or.inl rfl) (pe_ix ix_list (pe_fld (pv 0) rfl) (pv 1) (fun _ _ => rfl)))
      (pss_cons (ps_fld (pv 3) (pv 2) rfl)
      (pss_one (ps_ret pe_int))))), ?_⟩
    have no : (has m.people.length p && isRoles r) = false → Q (.int (-2)) H := fun e => k.no R (by unfold mRoles; rw [if_pos e]) (Same.refl _)
    refine ⟨_, rfl, ⟨_, _, _, _, _, rfl, (R.off), T.k_Office, T.n_Office_people, l_O_people, ⟨_, rfl, ⟨_, _, _, _, rfl, SqL.of R.ppl, refs_len _ _, ⟨_, rfl, ifNot (fun c1 => iteT (no (by rw [c1]; rfl))) fun c1 => ?_⟩⟩⟩⟩⟩
    refine ⟨_, rfl, r, rfl, _, rfl, ifNot (fun c2 => no (by rw [c2, Bool.and_false])) fun c2 => ?_⟩
    have hp := has_per c1
    refine ⟨_, rfl, ⟨_, _, _, _, _, rfl, (R.off), T.k_Office, T.n_Office_people, l_O_people, ⟨_, rfl, R.ixPer c1 ?_⟩⟩⟩
    refine ⟨_, rfl, _, rfl, T.wP_roles (R.per hp) ?_⟩
    exact k.yes (m' := setPer m p { per m p with roles := r }) (L' := L) (by unfold mRoles; rw [if_neg (by rw [c1, c2]; exact Bool.noConfusion)]) (R.setPer hp _)
theorem ok_may_be_chief (F : Fun K "may_be_chief" "may_be_chief" s_may_be_chief f fd) (T : Txt K mg C.P C.S C.A C.X C.O) (g_has : Cal P w K mg base 1 "has" p_has (sp_has K)) :
    FnOk P w K mg base CX0 2 f fd p_may_be_chief (sp_may_be_chief C) := by
  refine F.ok sc_may_be_chief (fun vs H Q E h => ?_) (fun cdv A outer s H vs Q E hr h => ?_)
  · obtain ⟨L, m, z, rfl, _⟩ := h
    rfl
  · obtain ⟨L, m, z, rfl, R, k⟩ := h
    refine ⟨_, (pss_one (ps_ret (pe_or (pe_cmpR op_eq (pv 1) (pe_cst rfl T.c_NOBODY) (nomark _)) (pe_one (pe_callC g_has (hr.mono (by decide)) rfl (pa_cons (pe_fld (pv 0) rfl) (pa_cons (pv 1) pa_nil))))))), ?_⟩
    refine ⟨_, rfl, rfl, _, rfl, ?_⟩
    rw [decV]
    refine orB k fun h k => ?_
    exact ⟨_, rfl, ⟨_, _, _, _, _, rfl, (R.off), T.k_Office, T.n_Office_people, l_O_people, ⟨_, rfl, ⟨_, _, _, _, rfl, SqL.of R.ppl, refs_len _ _, k⟩⟩⟩⟩
theorem ok_add_person (F : Fun K "add_person" "add_person" s_add_person f fd) (T : Txt K mg C.P C.S C.A C.X C.O) (g_are_roles : Cal P w K mg base 1 "are_roles" p_are_roles sp_are_roles) (g_may_be_chief : Cal P w K mg base 2 "may_be_chief" p_may_be_chief (sp_may_be_chief C))
    (g_Person : Mak P w K mg base 1 "Person" C.P p_Person (sp_Person C)) : FnOk P w K mg base CX0 3 f fd p_add_person (sp_add_person C) := by
  refine F.ok sc_add_person (fun vs H Q E h => ?_) (fun cdv A outer s H vs Q E hr h => ?_)
  · obtain ⟨L, m, r, c, rfl, _⟩ := h
    rfl
  · obtain ⟨L, m, r, c, rfl, R, W, k⟩ := h
    refine ⟨_, (pss_cons (ps_if (PW.pt (pw_or (pt_not (pt_val (pe_callC g_are_roles (hr.mono (by decide)) rfl (pa_cons (pv 1) pa_nil)))) (pw_or1 (pt_not (pt_val (pe_callC g_may_be_chief (hr.mono (by decide)) rfl (pa_cons (pv 0) (pa_cons (pv 2) pa_nil)))))))) (pss_one (ps_ret (pe_cst rfl T.c_NOT_ONE_THAT_MAY_BE))) pss_nil)
      (pss_cons (ps_if (pt_cmpR op_eq (pe_callB call_len_seq (by rfl) T.b_len PySem.boot_len (pa_cons (pe_fld (pv 0) rfl) pa_nil)) (pe_cst rfl T.c_MOST_PEOPLE) (nomark _)) (pss_one (ps_ret (pe_cst rfl T.c_FULL))) pss_nil)
      (pss_cons (ps_expr (pe_bm PySem.F.plainAttrs_list PySem.F.slot_list_append PySem.F.type_list_append mt_append (pe_fld (pv 0) rfl) (pa_cons (pe_makeC g_Person (hr.mono (by decide)) rfl (pa_cons (pv 1) (pa_cons (pv 2) pa_nil))) pa_nil)))
      (pss_one (ps_ret (pe_op op_sub (pe_callB call_len_seq (by rfl) T.b_len PySem.boot_len (pa_cons (pe_fld (pv 0) rfl) pa_nil)) pe_int)))))), ?_⟩
    have no : (isRoles r && (decide (c = -1) || has m.people.length c)) = false → Q (.int (-2)) H := fun e => k.no R (by unfold mPerson; rw [if_pos e]) (Same.refl _)
    refine ⟨_, rfl, r, rfl, _, rfl, ifNot (fun c1 => iteT (no (by rw [c1]; rfl))) fun c1 => ?_⟩
    refine ⟨_, rfl, _, rfl, L, m, c, rfl, R, _, rfl, ifNot (fun c2 => no (by rw [c2, Bool.and_false])) fun c2 => ?_⟩
    have ok : ¬ (isRoles r && (decide (c = -1) || has m.people.length c)) = false := by rw [c1, c2]; exact Bool.noConfusion
    refine ⟨_, rfl, ⟨_, _, _, _, _, rfl, (R.off), T.k_Office, T.n_Office_people, l_O_people, ⟨_, _, rfl, .inl (SqL.of R.ppl), rfl, _, rfl, ?_⟩⟩⟩
    rw [refs_len]
    refine ifEq (fun c3 => k.no R (by unfold mPerson; rw [if_neg ok, if_pos c3]) (Same.refl _)) fun c3 => ?_
    refine ⟨_, rfl, ⟨_, _, _, _, _, rfl, (R.off), T.k_Office, T.n_Office_people, l_O_people, ⟨.inl ⟨rfl, _, SqL.of R.ppl⟩, _, rfl, _, rfl, fun a dx na nd ne => ⟨a, dx, r, c, rfl, upd_same, rfl, ?_⟩⟩⟩⟩
    rw [upd_upd]
    have s1 : Same H (upd (upd H dx (.own a)) a (.ins C.P dx (perF ⟨r, c, -1, 0⟩))) := fun b o e => by
      rw [upd_ne (ne_of_none e na), upd_ne (ne_of_none e nd)]
      exact e
    have R1 := R.same s1
    have hn := W.n
    refine ⟨_, _, _, rfl, rfl, R1.ppl, by rw [refs_len]; exact Nat.lt_of_le_of_lt hn (by decide), ?_⟩
    have hoff : upd (upd (upd H dx (.own a)) a (.ins C.P dx (perF ⟨r, c, -1, 0⟩))) (L.ad .ppl) (.lst (refs (fun i => L.ad (.per i)) m.people.length ++ [.ref a])) (L.ad .off) = some (.ins C.O (L.dx .off) (offF L m)) := by
      rw [upd_ne (ne_of R1.off R1.ppl fun z => nomatch z)]
      exact R1.off
    refine ⟨_, rfl, ⟨_, _, _, _, _, rfl, (hoff), T.k_Office, T.n_Office_people, l_O_people, ⟨_, _, rfl, .inl (SqL.of upd_same), _, _, rfl, rfl, ?_⟩⟩⟩
    obtain ⟨L', G⟩ := R.addPer (a := a) (dx := dx) (p := ⟨r, c, -1, 0⟩) (H' := upd (upd (upd H dx (.own a)) a (.ins C.P dx (perF ⟨r, c, -1, 0⟩))) (L.ad .ppl) (.lst (refs (fun i => L.ad (.per i)) m.people.length ++ [.ref a]))) na
      (by rw [upd_ne (ne_of_none R.ppl na).symm]; exact upd_same) upd_same (fun b o e hb => by rw [upd_ne hb]; exact s1 b o e)
    have ev : (((refs (fun i => L.ad (.per i)) m.people.length ++ [V.ref a]).length : Nat) : Int) - 1 = m.people.length := by
      rw [List.length_append, refs_len]
      show ((m.people.length + 1 : Nat) : Int) - 1 = _
      omega
    have kk := k.yes (by unfold mPerson; rw [if_neg ok, if_neg c3]) G
    rw [← ev] at kk
    exact kk
theorem kd_len : ∀ (l : List (Int × Int)) (d : List (List Key × V)), (l.foldl kdPut d).length ≤ d.length + 2 * l.length
  | [], d => by simp
  | p :: l, d => by
    rw [List.foldl_cons]
    have h1 := kd_len l (kdPut d p)
    have h2 := length_putK (putK d (k2 p.1 p.2) (.bl true)) (k2 p.2 p.1) (.bl true)
    have h3 := length_putK d (k2 p.1 p.2) (.bl true)
    have h4 : (kdPut d p).length ≤ d.length + 2 := by
      unfold kdPut
      omega
    rw [List.length_cons]
    omega
theorem ok_keep_apart (F : Fun K "keep_apart" "keep_apart" s_keep_apart f fd) (T : Txt K mg C.P C.S C.A C.X C.O) (g_is_role : Cal P w K mg base 1 "is_role" p_is_role sp_is_role) : FnOk P w K mg base CX0 2 f fd p_keep_apart (sp_keep_apart C) := by
  refine F.ok sc_keep_apart (fun vs H Q E h => ?_) (fun cdv A outer s H vs Q E hr h => ?_)
  · obtain ⟨L, m, r, t, rfl, _⟩ := h
    rfl
  · obtain ⟨L, m, r, t, rfl, R, hap, k⟩ := h
    refine ⟨_, (pss_cons (ps_if (PW.pt (pw_or (pt_not (pt_val (pe_callC g_is_role (hr.mono (by decide)) rfl (pa_cons (pv 1) pa_nil)))) (pw_or1 (pt_not (pt_val (pe_callC g_is_role (hr.mono (by decide)) rfl (pa_cons (pv 2) pa_nil))))))) (pss_one (ps_ret (pe_cst rfl T.c_NOT_ONE_THAT_MAY_BE))) pss_nil)
      (pss_cons (ps_if (pt_cmpR op_gt (pe_callB call_len_seq (by rfl) T.b_len PySem.boot_len (pa_cons (pe_fld (pv 0) rfl) pa_nil)) pe_int (nomark _)) (pss_one (ps_ret (pe_cst rfl T.c_TOO_LATE))) pss_nil)
      (pss_cons (ps_dput (hu_of hr) (pe_fld (pv 0) rfl) (pe_tup (pa_cons (pv 1) (pa_cons (pv 2) pa_nil))) pe_bl rfl)
      (pss_cons (ps_dput (hu_of hr) (pe_fld (pv 0) rfl) (pe_tup (pa_cons (pv 2) (pa_cons (pv 1) pa_nil))) pe_bl rfl)
      (pss_one (ps_ret pe_int)))))), ?_⟩
    have no : (isRole r && isRole t) = false → Q (.int (-2)) H := fun e => k.no R (by unfold mApart; rw [if_pos e]) (Same.refl _)
    refine ⟨_, rfl, r, rfl, _, rfl, ifNot (fun c1 => iteT (no (by rw [c1]; rfl))) fun c1 => ?_⟩
    refine ⟨_, rfl, t, rfl, _, rfl, ifNot (fun c2 => no (by rw [c2, Bool.and_false])) fun c2 => ?_⟩
    have ok : ¬ (isRole r && isRole t) = false := by rw [c1, c2]; exact Bool.noConfusion
    refine ⟨_, rfl, ⟨_, _, _, _, _, rfl, (R.off), T.k_Office, T.n_Office_papers, l_O_papers, ⟨_, _, rfl, .inl (SqL.of R.pal), _, _, rfl, rfl, _, rfl, ?_⟩⟩⟩
    rw [refs_len]
    refine ifP (fun c3 => k.no R (by unfold mApart; rw [if_neg ok, if_pos c3]) (Same.refl _)) fun c3 => ?_
    refine ⟨_, rfl, ⟨_, _, _, _, _, rfl, (R.off), T.k_Office, T.n_Office_kept_apart, l_O_kept_apart, ⟨_, rfl, _, rfl, (by show 2 ≤ sizeLine; decide), fun p hp => ?_⟩⟩⟩
    have s1 : Same H (upd H p (.tup [.int r, .int t])) := same_new hp
    have R1 := R.same s1
    have hl0 := kd_len m.apart []
    have hl1 : (kdOf m.apart).length ≤ 700 := by unfold kdOf; have : ([] : List (List Key × V)).length = 0 := rfl; omega
    refine ⟨_, _, rfl, DPut.t (k := k2 r t) R1.kd upd_same (Nat.lt_of_le_of_lt hl1 (by decide)), ?_⟩
    have hoff : upd (upd H p (.tup [.int r, .int t])) (L.ad .kd) (.dT (putK (kdOf m.apart) (k2 r t) (.bl true))) (L.ad .off) = some (.ins C.O (L.dx .off) (offF L m)) := by
      rw [upd_ne (ne_of R1.off R1.kd fun z => nomatch z)]
      exact R1.off
    refine ⟨_, rfl, ⟨_, _, _, _, _, rfl, (hoff), T.k_Office, T.n_Office_kept_apart, l_O_kept_apart, ⟨_, rfl, _, rfl, (by show 2 ≤ sizeLine; decide), fun p2 hp2 => ?_⟩⟩⟩
    have hkd : L.ad .kd ≠ p2 := fun e => by rw [← e, upd_same] at hp2; cases hp2
    have hp2' : H p2 = none := s1.free (by rw [upd_ne hkd.symm] at hp2; exact hp2)
    have hl2 := length_putK (kdOf m.apart) (k2 r t) (.bl true)
    refine ⟨_, _, rfl, DPut.t (k := k2 t r) (by rw [upd_ne hkd]; exact upd_same) upd_same (Nat.lt_of_le_of_lt (Nat.le_trans hl2 (Nat.succ_le_succ hl1)) (by decide)), ?_⟩
    refine k.yes (m' := { m with apart := m.apart ++ [(r, t)] }) (L' := L) (by unfold mApart; rw [if_neg ok, if_neg c3]) ?_
    refine R.grow .kd trivial (fun _ _ => ⟨rfl, rfl⟩) (fun c _ hn => obj_apart hn) (fun c h h' => absurd (by cases c <;> exact h') h) (fun c d h _ h' _ _ => absurd (by cases c <;> exact h') h) (fun c u h e => absurd (by have := obj_live e; cases c <;> exact this) h) ⟨_, rfl, ?_⟩ (fun b o e hb => ?_)
    · rw [upd_same]
      show _ = some (HO.dT ((m.apart ++ [(r, t)]).foldl kdPut []))
      rw [List.foldl_append]
      rfl
    · rw [upd_ne hb, upd_ne (ne_of_none e hp2'), upd_ne hb, upd_ne (ne_of_none e hp)]
      exact e
end
end Po
namespace Po
open PySem L2
section
variable {P : Program} {w : World} {K : PySem.W.Frag} {mg : Str → Option Value} {base : Heap} {C : Cl} {f : Addr} {fd : FuncData}
theorem ok_file_paper (F : Fun K "file_paper" "file_paper" s_file_paper f fd) (T : Txt K mg C.P C.S C.A C.X C.O) (g_has : Cal P w K mg base 1 "has" p_has (sp_has K)) (g_Paper : Mak P w K mg base 1 "Paper" C.X p_Paper (sp_Paper C))
    (g_come_to : Cal P w K mg base 3 "come_to" p_come_to (sp_come_to C)) : FnOk P w K mg base CX0 4 f fd p_file_paper (sp_file_paper C) := by
  refine F.ok sc_file_paper (fun vs H Q E h => ?_) (fun cdv A outer s H vs Q E hr h => ?_)
  · obtain ⟨L, m, wr, r, rfl, _⟩ := h
    rfl
  · obtain ⟨L, m, wr, r, rfl, R, W, k⟩ := h
    refine ⟨_, (pss_cons (ps_if (PW.pt (pw_or (pt_not (pt_val (pe_callC g_has (hr.mono (by decide)) rfl (pa_cons (pe_fld (pv 0) rfl) (pa_cons (pv 1) pa_nil))))) (pw_or1 (pt_not (pt_val (pe_callC g_has (hr.mono (by decide)) rfl (pa_cons (pe_fld (pv 0) rfl) (pa_cons (pv 2) pa_nil)))))))) (pss_one (ps_ret (pe_cst rfl T.c_NOT_ONE_THAT_MAY_BE))) pss_nil)
      (pss_cons (ps_if (pt_cmpR op_eq (pe_callB call_len_seq (by rfl) T.b_len PySem.boot_len (pa_cons (pe_fld (pv 0) rfl) pa_nil)) (pe_cst rfl T.c_MOST_PAPERS) (nomark _)) (pss_one (ps_ret (pe_cst rfl T.c_FULL))) pss_nil)
      (pss_cons (ps_set (i := 3) sc_file_paper.nd rfl (Or.inl rfl) (pe_makeC g_Paper (hr.mono (by decide)) rfl (pa_cons (pv 1) (pa_cons (pv 2) pa_nil))))
      (pss_cons (ps_expr (pe_callC g_come_to (hr.mono (by decide)) rfl (pa_cons (pv 0) (pa_cons (pv 3) (pa_cons pe_int pa_nil)))))
      (pss_cons (ps_expr (pe_bm PySem.F.plainAttrs_list PySem.F.slot_list_append PySem.F.type_list_append mt_append (pe_fld (pv 0) rfl) (pa_cons (pv 3) pa_nil)))
      (pss_one (ps_ret (pe_op op_sub (pe_callB call_len_seq (by rfl) T.b_len PySem.boot_len (pa_cons (pe_fld (pv 0) rfl) pa_nil)) pe_int)))))))), ?_⟩
    have no : (has m.people.length wr && has m.procs.length r) = false → Q (.int (-2)) H := fun e => k.no R (by unfold mFile; rw [if_pos e]) (Same.refl _)
    refine ⟨_, rfl, ⟨_, _, _, _, _, rfl, (R.off), T.k_Office, T.n_Office_people, l_O_people, ⟨_, rfl, ⟨_, _, _, _, rfl, SqL.of R.ppl, refs_len _ _, ⟨_, rfl, ifNot (fun c1 => iteT (no (by rw [c1]; rfl))) fun c1 => ?_⟩⟩⟩⟩⟩
    refine ⟨_, rfl, ⟨_, _, _, _, _, rfl, (R.off), T.k_Office, T.n_Office_procedures, l_O_procedures, ⟨_, rfl, ⟨_, _, _, _, rfl, SqL.of R.prl, refs_len _ _, ⟨_, rfl, ifNot (fun c2 => no (by rw [c2, Bool.and_false])) fun c2 => ?_⟩⟩⟩⟩⟩
    have ok : ¬ (has m.people.length wr && has m.procs.length r) = false := by rw [c1, c2]; exact Bool.noConfusion
    refine ⟨_, rfl, ⟨_, _, _, _, _, rfl, (R.off), T.k_Office, T.n_Office_papers, l_O_papers, ⟨_, _, rfl, .inl (SqL.of R.pal), rfl, _, rfl, ?_⟩⟩⟩
    rw [refs_len]
    refine ifEq (fun c3 => k.no R (by unfold mFile; rw [if_neg ok, if_pos c3]) (Same.refl _)) fun c3 => ?_
    refine ⟨_, rfl, _, rfl, fun a dx na nd ne => ⟨a, dx, wr, r, rfl, upd_same, fun l hla hl => ⟨rfl, ?_⟩⟩⟩
    have hldx : l ≠ dx := fun e => by rw [upd_ne hla, e, upd_same] at hl; cases hl
    have hl0 : H l = none := by rw [upd_ne hla, upd_ne hldx] at hl; exact hl
    have s1 : Same H (upd (upd (upd (upd H dx (.own a)) a (.ins C.X dx [])) l (.lst [])) a (.ins C.X dx (papF l ⟨wr, r, 0, 0, 0, 0, 0, []⟩))) := fun b o e => by
      rw [upd_ne (ne_of_none e na), upd_ne (ne_of_none e hl0), upd_ne (ne_of_none e na), upd_ne (ne_of_none e nd)]
      exact e
    have R1 := R.same s1
    have P1 : PapAt C L (upd (upd (upd (upd H dx (.own a)) a (.ins C.X dx [])) l (.lst [])) a (.ins C.X dx (papF l ⟨wr, r, 0, 0, 0, 0, 0, []⟩))) m a dx l ⟨wr, r, 0, 0, 0, 0, 0, []⟩ := ⟨R1.rp, upd_same, fun c _ hc e => R.none_out na c hc e.symm⟩
    obtain ⟨r0, r1⟩ := has_iff.mp c2
    obtain ⟨ls, hls⟩ := get_of_lt (show r.toNat < m.procs.length by omega)
    have hw := W.pr ls (List.mem_of_getElem? hls)
    obtain ⟨st, hst⟩ := get_of_lt (show 0 < ls.length by omega)
    refine ⟨_, rfl, _, rfl, L, m, a, dx, l, ⟨wr, r, 0, 0, 0, 0, 0, []⟩, 0, ls, st, rfl, P1, ⟨r0, Int.le_refl 0, hls, hst⟩, ?_⟩
    have s2 : Same H (upd (upd (upd (upd (upd H dx (.own a)) a (.ins C.X dx [])) l (.lst [])) a (.ins C.X dx (papF l ⟨wr, r, 0, 0, 0, 0, 0, []⟩))) a (.ins C.X dx (papF l (comes m ⟨wr, r, 0, 0, 0, 0, 0, []⟩ 0)))) := fun b o e => by
      rw [upd_ne (ne_of_none e na)]
      exact s1 b o e
    have R2 := R.same s2
    refine ⟨_, rfl, ⟨_, _, _, _, _, rfl, (R2.off), T.k_Office, T.n_Office_papers, l_O_papers, ⟨.inl ⟨rfl, _, SqL.of R2.pal⟩, _, rfl, _, _, _, rfl, rfl, R2.pal, by rw [refs_len]; exact Nat.lt_of_le_of_lt W.j (by decide), ?_⟩⟩⟩
    have hpa : L.ad .pal ≠ a := ne_of_none R.pal na
    have hpl : L.ad .pal ≠ l := ne_of_none R.pal hl0
    have hoff : upd (upd (upd (upd (upd (upd H dx (.own a)) a (.ins C.X dx [])) l (.lst [])) a (.ins C.X dx (papF l ⟨wr, r, 0, 0, 0, 0, 0, []⟩))) a (.ins C.X dx (papF l (comes m ⟨wr, r, 0, 0, 0, 0, 0, []⟩ 0)))) (L.ad .pal) (.lst (refs (fun i => L.ad (.pap i)) m.papers.length ++ [.ref a])) (L.ad .off) = some (.ins C.O (L.dx .off) (offF L m)) := by
      rw [upd_ne (ne_of R2.off R2.pal fun z => nomatch z)]
      exact R2.off
    refine ⟨_, rfl, ⟨_, _, _, _, _, rfl, (hoff), T.k_Office, T.n_Office_papers, l_O_papers, ⟨_, _, rfl, .inl (SqL.of upd_same), _, _, rfl, rfl, ?_⟩⟩⟩
    obtain ⟨L', G⟩ := R.addPap (a := a) (dx := dx) (l := l) (x := comes m ⟨wr, r, 0, 0, 0, 0, 0, []⟩ 0) (H' := upd (upd (upd (upd (upd (upd H dx (.own a)) a (.ins C.X dx [])) l (.lst [])) a (.ins C.X dx (papF l ⟨wr, r, 0, 0, 0, 0, 0, []⟩))) a (.ins C.X dx (papF l (comes m ⟨wr, r, 0, 0, 0, 0, 0, []⟩ 0)))) (L.ad .pal) (.lst (refs (fun i => L.ad (.pap i)) m.papers.length ++ [.ref a])))
      rfl na hl0 hla (by rw [upd_ne hpa.symm]; exact upd_same) (by rw [upd_ne hpl.symm, upd_ne hla, upd_ne hla]; exact upd_same) upd_same (fun b o e hb => by rw [upd_ne hb]; exact s2 b o e)
    have ev : (((refs (fun i => L.ad (.pap i)) m.papers.length ++ [V.ref a]).length : Nat) : Int) - 1 = m.papers.length := by
      rw [List.length_append, refs_len]
      show ((m.papers.length + 1 : Nat) : Int) - 1 = _
      omega
    have kk := k.yes (by unfold mFile; rw [if_neg ok, if_neg c3]) G
    rw [← ev] at kk
    exact kk
theorem ok_note_act (F : Fun K "note_act" "note_act" s_note_act f fd) (T : Txt K mg C.P C.S C.A C.X C.O) (g_Act : Mak P w K mg base 1 "Act" C.A p_Act (sp_Act C)) : FnOk P w K mg base CX0 3 f fd p_note_act (sp_note_act C) := by
  refine F.ok sc_note_act (fun vs H Q E h => ?_) (fun cdv A outer s H vs Q E hr h => ?_)
  · obtain ⟨L, m, kk, x, b, g, sg, rfl, _⟩ := h
    rfl
  · obtain ⟨L, m, kk, x, b, g, sg, rfl, R, hx, hlen, k⟩ := h
    refine ⟨_, (pss_one (ps_expr (pe_bm PySem.F.plainAttrs_list PySem.F.slot_list_append PySem.F.type_list_append mt_append (pe_fld (pv 0) rfl) (pa_cons (pe_makeC g_Act (hr.mono (by decide)) rfl (pa_cons (pe_fld (pv 0) rfl) (pa_cons (pe_fld (pv 0) rfl) (pa_cons (pv 1) (pa_cons (pv 2) (pa_cons (pv 3) pa_nil)))))) pa_nil)))), ?_⟩
    have hp := R.pap hx
    refine ⟨_, rfl, ⟨_, _, _, _, _, rfl, (hp), T.k_Paper, T.n_Paper_acts, l_X_acts, ⟨.inl ⟨rfl, _, SqL.of (R.acl hx)⟩, _, rfl, ⟨_, _, _, _, _, rfl, (hp), T.k_Paper, T.n_Paper_step, l_X_step, ⟨_, rfl, ⟨_, _, _, _, _, rfl, (hp), T.k_Paper, T.n_Paper_turn, l_X_turn, ⟨_, rfl, _, rfl, _, rfl, fun a dx na nd ne => ⟨a, dx, _, _, _, _, _, rfl, upd_same, rfl, ?_⟩⟩⟩⟩⟩⟩⟩⟩
    rw [upd_upd]
    have s1 : Same H (upd (upd H dx (.own a)) a (.ins C.A dx (actF ⟨x.step, x.turn, b, g, sg⟩))) := fun b o e => by
      rw [upd_ne (ne_of_none e na), upd_ne (ne_of_none e nd)]
      exact e
    have R1 := R.same s1
    refine ⟨_, _, _, rfl, rfl, R1.acl hx, by rw [refs_len]; exact Nat.lt_of_le_of_lt hlen (by decide), ?_⟩
    obtain ⟨L', G⟩ := R.addAct hx (a := a) (dx := dx) (c := ⟨x.step, x.turn, b, g, sg⟩) (H' := upd (upd (upd H dx (.own a)) a (.ins C.A dx (actF ⟨x.step, x.turn, b, g, sg⟩))) (L.ad (.acl kk)) (.lst (refs (fun i => L.ad (.act kk i)) x.acts.length ++ [.ref a]))) na
      (by rw [upd_ne (ne_of_none (R.acl hx) na).symm]; exact upd_same) upd_same (fun b o e hb => by rw [upd_ne hb]; exact s1 b o e)
    exact k L' _ G
theorem put_put (m : Off) (k : Int) (x y : Pap) : ({ ({ m with papers := m.papers.set k.toNat x } : Off) with papers := ({ m with papers := m.papers.set k.toNat x } : Off).papers.set k.toNat y } : Off) = put m k y := by
  unfold put
  show ({ m with papers := (m.papers.set k.toNat x).set k.toNat y } : Off) = _
  rw [List.set_set]
theorem try0 {m : Off} {b g z : Int} (h : ¬ tryAct m b g z < 0) : has m.people.length b = true ∧ has m.people.length g = true ∧ has m.papers.length z = true ∧ refusal m b g (pap m z) = 0 := by
  unfold tryAct at h
  by_cases c : (has m.people.length b && has m.people.length g && has m.papers.length z) = false
  · rw [if_pos c] at h
    exact absurd (by decide) h
  · rw [if_neg c] at h
    have c' := nf c
    rw [Bool.and_eq_true, Bool.and_eq_true] at c'
    have := (refusal_le m b g (pap m z)).1
    exact ⟨c'.1.1, c'.1.2, c'.2, by omega⟩
theorem ok_sign_paper (F : Fun K "sign_paper" "sign_paper" s_sign_paper f fd) (T : Txt K mg C.P C.S C.A C.X C.O) (g_may_act : Cal P w K mg base 4 "may_act" p_may_act (sp_may_act C)) (g_note_act : Cal P w K mg base 3 "note_act" p_note_act (sp_note_act C))
    (g_signatures_in_this_round : Cal P w K mg base 1 "signatures_in_this_round" p_signatures_in_this_round (sp_sigs C)) (g_current_step : Cal P w K mg base 1 "current_step" p_current_step (sp_current_step C))
    (g_go_on : Cal P w K mg base 4 "go_on" p_go_on (sp_go_on C)) : FnOk P w K mg base CX0 5 f fd p_sign_paper (sp_sign C) := by
  refine F.ok sc_sign_paper (fun vs H Q E h => ?_) (fun cdv A outer s H vs Q E hr h => ?_)
  · obtain ⟨L, m, b, g, z, rfl, _⟩ := h
    rfl
  · obtain ⟨L, m, b, g, z, rfl, R, W, hab, k⟩ := h
    refine ⟨_, (pss_cons (ps_set (i := 4) sc_sign_paper.nd rfl (Or.inl rfl) (pe_callC g_may_act (hr.mono (by decide)) rfl (pa_cons (pv 0) (pa_cons (pv 1) (pa_cons (pv 2) (pa_cons (pv 3) pa_nil))))))
      (pss_cons (ps_if (pt_cmpR op_lt (pv 4) pe_int (nomark _)) (pss_one (ps_ret (pv 4))) pss_nil)
      (pss_cons (ps_set (i := 5) sc_sign_paper.nd rfl (Or.inl rfl) (pe_ix ix_list (pe_fld (pv 0) rfl) (pv 3) (fun _ _ => rfl)))
      (pss_cons (ps_expr (pe_callC g_note_act (hr.mono (by decide)) rfl (pa_cons (pv 5) (pa_cons (pv 1) (pa_cons (pv 2) (pa_cons pe_int pa_nil))))))
      (pss_cons (ps_if (pt_cmpR op_eq (pe_callC g_signatures_in_this_round (hr.mono (by decide)) rfl (pa_cons (pv 5) pa_nil)) (pe_fld (pe_callC g_current_step (hr.mono (by decide)) rfl (pa_cons (pv 0) (pa_cons (pv 5) pa_nil))) rfl) (nomark _)) (pss_one (ps_expr (pe_callC g_go_on (hr.mono (by decide)) rfl (pa_cons (pv 0) (pa_cons (pv 5) pa_nil))))) pss_nil)
      (pss_one (ps_ret (pe_fld (pv 5) rfl)))))))), ?_⟩
    refine ⟨_, rfl, _, rfl, _, rfl, _, rfl, L, m, b, g, z, rfl, R, W, fun H1 s1 => ?_⟩
    refine ⟨_, rfl, _, _, rfl, rfl, _, rfl, ifP (fun c => ⟨_, rfl, k.no R (by unfold mSign; rw [if_pos c]) s1⟩) fun c => ?_⟩
    obtain ⟨c1, c2, c3, c4⟩ := try0 c
    have R1 := R.same s1
    have hx := has_pap c3
    have X := W.papN hx
    have S := has_step W X
    have e0 : mSign m b g z = (put m z (signing m (pap m z) b g), (signing m (pap m z) b g).state) := by unfold mSign; rw [if_neg c]
    refine ⟨_, rfl, ⟨_, _, _, _, _, rfl, (R1.off), T.k_Office, T.n_Office_papers, l_O_papers, ⟨_, rfl, R1.ixPap c3 ?_⟩⟩⟩
    have hlen := hab.pap z
    refine ⟨_, rfl, _, rfl, _, rfl, L, m, z.toNat, pap m z, b, g, 1, rfl, R1, hx, hlen, fun L2 H2 G2 => ?_⟩
    have hx2 : (m.papers.set z.toNat (noted (pap m z) b g 1))[z.toNat]? = some (noted (pap m z) b g 1) := List.getElem?_set_self (lt_of_get hx)
    have ep := (G2.ad (.pap z.toNat) (lt_of_get hx)).2
    have eo := G2.off
    have S2 : HasStep ({ m with papers := m.papers.set z.toNat (noted (pap m z) b g 1) } : Off) (noted (pap m z) b g 1) (stepsAt m (pap m z)) (stepAt m (pap m z)) := ⟨S.p0, S.s0, S.l, S.s⟩
    have ac := noted_ac X c1 c2 (Or.inr rfl : (1 : Int) = 0 ∨ (1 : Int) = 1)
    have hlen2 : (noted (pap m z) b g 1).acts.length ≤ 400 := by
      show ((pap m z).acts ++ [_]).length ≤ 400
      rw [List.length_append]
      show (pap m z).acts.length + 1 ≤ 400
      omega
    refine ⟨_, rfl, L2, _, z.toNat, noted (pap m z) b g 1, by rw [ep]; rfl, G2.R, fun a ha => (ac a ha).g, hx2, hlen2, fun H3 s3 => ?_⟩
    have R3 := G2.R.same s3
    have G3 := Grows.ahead R s1 (G2.more s3)
    refine ⟨_, rfl, _, rfl, L2, _, L2.ad (.pap z.toNat), _, _, noted (pap m z) b g 1, _, _, by rw [ep, eo]; rfl, R3.rp, R3.pap hx2, S2, ⟨_, _, _, _, _, rfl, ((R3.stp S.l S.s)), T.k_Step, T.n_Step_signatures, l_S_signatures, ⟨rfl, _, rfl, ifEq (fun d => ?_) fun d => ?_⟩⟩⟩
    · have es : signing m (pap m z) b g = goOn m (noted (pap m z) b g 1) := by unfold signing; exact if_pos d
      refine ⟨_, rfl, _, rfl, L2, _, L2.ad (.pap z.toNat), _, _, noted (pap m z) b g 1, _, _, by rw [ep, eo]; rfl, R3.papAt hx2, S2, ?_⟩
      have G4 := G3.trans (R3.setPap hx2 (y := goOn m (noted (pap m z) b g 1)) (goOn_acts _ _))
      have h4 : upd H3 (L2.ad (.pap z.toNat)) (.ins C.X (L2.dx (.pap z.toNat)) (papF (L2.ad (.acl z.toNat)) (goOn m (noted (pap m z) b g 1)))) (L.ad (.pap z.toNat)) = some (.ins C.X (L2.dx (.pap z.toNat)) (papF (L2.ad (.acl z.toNat)) (goOn m (noted (pap m z) b g 1)))) := by rw [← ep]; exact upd_same
      refine ⟨_, rfl, ⟨_, _, _, _, _, rfl, (h4), T.k_Paper, T.n_Paper_state, l_X_state, ?_⟩⟩
      rw [put_put] at G4
      rw [es] at e0
      exact k.yes e0 G4
    · have es : signing m (pap m z) b g = noted (pap m z) b g 1 := by unfold signing; exact if_neg d
      have h4 : H3 (L.ad (.pap z.toNat)) = some (.ins C.X (L2.dx (.pap z.toNat)) (papF (L2.ad (.acl z.toNat)) (noted (pap m z) b g 1))) := by rw [← ep]; exact R3.pap hx2
      refine ⟨_, rfl, ⟨_, _, _, _, _, rfl, (h4), T.k_Paper, T.n_Paper_state, l_X_state, ?_⟩⟩
      rw [es] at e0
      exact k.yes e0 G3
theorem ok_refuse_paper (F : Fun K "refuse_paper" "refuse_paper" s_refuse_paper f fd) (T : Txt K mg C.P C.S C.A C.X C.O) (g_may_act : Cal P w K mg base 4 "may_act" p_may_act (sp_may_act C)) (g_note_act : Cal P w K mg base 3 "note_act" p_note_act (sp_note_act C))
    (g_go_back : Cal P w K mg base 4 "go_back" p_go_back (sp_go_back C)) : FnOk P w K mg base CX0 5 f fd p_refuse_paper (sp_refuse C) := by
  refine F.ok sc_refuse_paper (fun vs H Q E h => ?_) (fun cdv A outer s H vs Q E hr h => ?_)
  · obtain ⟨L, m, b, g, z, rfl, _⟩ := h
    rfl
  · obtain ⟨L, m, b, g, z, rfl, R, W, hab, k⟩ := h
    refine ⟨_, (pss_cons (ps_set (i := 4) sc_refuse_paper.nd rfl (Or.inl rfl) (pe_callC g_may_act (hr.mono (by decide)) rfl (pa_cons (pv 0) (pa_cons (pv 1) (pa_cons (pv 2) (pa_cons (pv 3) pa_nil))))))
      (pss_cons (ps_if (pt_cmpR op_lt (pv 4) pe_int (nomark _)) (pss_one (ps_ret (pv 4))) pss_nil)
      (pss_cons (ps_set (i := 5) sc_refuse_paper.nd rfl (Or.inl rfl) (pe_ix ix_list (pe_fld (pv 0) rfl) (pv 3) (fun _ _ => rfl)))
      (pss_cons (ps_expr (pe_callC g_note_act (hr.mono (by decide)) rfl (pa_cons (pv 5) (pa_cons (pv 1) (pa_cons (pv 2) (pa_cons pe_int pa_nil))))))
      (pss_cons (ps_expr (pe_callC g_go_back (hr.mono (by decide)) rfl (pa_cons (pv 0) (pa_cons (pv 5) pa_nil))))
      (pss_one (ps_ret (pe_fld (pv 5) rfl)))))))), ?_⟩
    refine ⟨_, rfl, _, rfl, _, rfl, _, rfl, L, m, b, g, z, rfl, R, W, fun H1 s1 => ?_⟩
    refine ⟨_, rfl, _, _, rfl, rfl, _, rfl, ifP (fun c => ⟨_, rfl, k.no R (by unfold mRefuse; rw [if_pos c]) s1⟩) fun c => ?_⟩
    obtain ⟨c1, c2, c3, c4⟩ := try0 c
    have R1 := R.same s1
    have hx := has_pap c3
    have X := W.papN hx
    have S := has_step W X
    have St := W.stp1 X
    have e0 : mRefuse m b g z = (put m z (refusing m (pap m z) b g), (refusing m (pap m z) b g).state) := by unfold mRefuse; rw [if_neg c]
    refine ⟨_, rfl, ⟨_, _, _, _, _, rfl, (R1.off), T.k_Office, T.n_Office_papers, l_O_papers, ⟨_, rfl, R1.ixPap c3 ?_⟩⟩⟩
    have hlen := hab.pap z
    refine ⟨_, rfl, _, rfl, _, rfl, L, m, z.toNat, pap m z, b, g, 0, rfl, R1, hx, hlen, fun L2 H2 G2 => ?_⟩
    have hx2 : (m.papers.set z.toNat (noted (pap m z) b g 0))[z.toNat]? = some (noted (pap m z) b g 0) := List.getElem?_set_self (lt_of_get hx)
    have ep := (G2.ad (.pap z.toNat) (lt_of_get hx)).2
    have eo := G2.off
    have S2 : HasStep ({ m with papers := m.papers.set z.toNat (noted (pap m z) b g 0) } : Off) (noted (pap m z) b g 0) (stepsAt m (pap m z)) (stepAt m (pap m z)) := ⟨S.p0, S.s0, S.l, S.s⟩
    have G3 := Grows.ahead R s1 G2
    have hb : (stepAt m (pap m z)).back = -1 ∨ (0 ≤ (stepAt m (pap m z)).back ∧ (stepAt m (pap m z)).back < (stepsAt m (pap m z)).length) := by
      have h1 := St.b0
      have h2 := St.b1
      have h3 := S.lt
      omega
    refine ⟨_, rfl, _, rfl, L2, _, L2.ad (.pap z.toNat), _, _, noted (pap m z) b g 0, _, _, by rw [ep, eo]; rfl, G2.R.papAt hx2, S2, hb, ?_⟩
    have G4 := G3.trans (G2.R.setPap hx2 (y := goBack m (noted (pap m z) b g 0)) (goBack_acts _ _))
    have h4 : upd H2 (L2.ad (.pap z.toNat)) (.ins C.X (L2.dx (.pap z.toNat)) (papF (L2.ad (.acl z.toNat)) (goBack m (noted (pap m z) b g 0)))) (L.ad (.pap z.toNat)) = some (.ins C.X (L2.dx (.pap z.toNat)) (papF (L2.ad (.acl z.toNat)) (goBack m (noted (pap m z) b g 0)))) := by rw [← ep]; exact upd_same
    refine ⟨_, rfl, ⟨_, _, _, _, _, rfl, (h4), T.k_Paper, T.n_Paper_state, l_X_state, ?_⟩⟩
    rw [put_put] at G4
    exact k.yes e0 G4
theorem ok_withdraw_paper (F : Fun K "withdraw_paper" "withdraw_paper" s_withdraw_paper f fd) (T : Txt K mg C.P C.S C.A C.X C.O) (g_has : Cal P w K mg base 1 "has" p_has (sp_has K)) : FnOk P w K mg base CX0 2 f fd p_withdraw_paper (sp_withdraw C) := by
  refine F.ok sc_withdraw_paper (fun vs H Q E h => ?_) (fun cdv A outer s H vs Q E hr h => ?_)
  · obtain ⟨L, m, b, z, rfl, _⟩ := h
    rfl
  · obtain ⟨L, m, b, z, rfl, R, k⟩ := h
    refine ⟨_, (pss_cons (ps_if (PW.pt (pw_or (pt_not (pt_val (pe_callC g_has (hr.mono (by decide)) rfl (pa_cons (pe_fld (pv 0) rfl) (pa_cons (pv 1) pa_nil))))) (pw_or1 (pt_not (pt_val (pe_callC g_has (hr.mono (by decide)) rfl (pa_cons (pe_fld (pv 0) rfl) (pa_cons (pv 2) pa_nil)))))))) (pss_one (ps_ret (pe_cst rfl T.c_NOT_ONE_THAT_MAY_BE))) pss_nil)
      (pss_cons (ps_set (i := 3) sc_withdraw_paper.nd rfl (Or.inl rfl) (pe_ix ix_list (pe_fld (pv 0) rfl) (pv 2) (fun _ _ => rfl)))
      (pss_cons (ps_if (pt_cmpR op_ne (pe_fld (pv 3) rfl) (pe_cst rfl T.c_UNDER_WAY) (nomark _)) (pss_one (ps_ret (pe_cst rfl T.c_TOO_LATE))) pss_nil)
      (pss_cons (ps_if (pt_cmpR op_ne (pe_fld (pv 3) rfl) (pv 1) (nomark _)) (pss_one (ps_ret (pe_cst rfl T.c_NOT_THE_WRITER))) pss_nil)
      (pss_cons (ps_fld (pv 3) (pe_cst rfl T.c_WITHDRAWN) rfl)
      (pss_one (ps_ret pe_int))))))), ?_⟩
    have no : (has m.people.length b && has m.papers.length z) = false → Q (.int (-2)) H := fun e => k.no R (by unfold mWithdraw; rw [if_pos e]) (Same.refl _)
    refine ⟨_, rfl, ⟨_, _, _, _, _, rfl, (R.off), T.k_Office, T.n_Office_people, l_O_people, ⟨_, rfl, ⟨_, _, _, _, rfl, SqL.of R.ppl, refs_len _ _, ⟨_, rfl, ifNot (fun c1 => iteT (no (by rw [c1]; rfl))) fun c1 => ?_⟩⟩⟩⟩⟩
    refine ⟨_, rfl, ⟨_, _, _, _, _, rfl, (R.off), T.k_Office, T.n_Office_papers, l_O_papers, ⟨_, rfl, ⟨_, _, _, _, rfl, SqL.of R.pal, refs_len _ _, ⟨_, rfl, ifNot (fun c2 => no (by rw [c2, Bool.and_false])) fun c2 => ?_⟩⟩⟩⟩⟩
    have ok : ¬ (has m.people.length b && has m.papers.length z) = false := by rw [c1, c2]; exact Bool.noConfusion
    have hx := has_pap c2
    refine ⟨_, rfl, ⟨_, _, _, _, _, rfl, (R.off), T.k_Office, T.n_Office_papers, l_O_papers, ⟨_, rfl, R.ixPap c2 ?_⟩⟩⟩
    refine ⟨_, rfl, ⟨_, _, _, _, _, rfl, ((R.pap hx)), T.k_Paper, T.n_Paper_state, l_X_state, ⟨rfl, _, rfl, ifNe (fun c3 => k.no R (by unfold mWithdraw; rw [if_neg ok, if_pos c3]) (Same.refl _)) fun c3 => ?_⟩⟩⟩
    refine ⟨_, rfl, ⟨_, _, _, _, _, rfl, ((R.pap hx)), T.k_Paper, T.n_Paper_writer, l_X_writer, ⟨_, rfl, rfl, _, rfl, ifNe (fun c4 => k.no R (by unfold mWithdraw; rw [if_neg ok, if_neg (fun q => q c3), if_pos fun q => c4 q.symm]) (Same.refl _)) fun c4 => ?_⟩⟩⟩
    refine ⟨_, rfl, T.wX_state (R.pap hx) ?_⟩
    exact k.yes (m' := put m z { pap m z with state := 3 }) (L' := L) (by unfold mWithdraw; rw [if_neg ok, if_neg (fun q => q c3), if_neg fun q => q c4.symm]) (R.setPap hx rfl)
/-! ### procedures -/
theorem chainT {a b : Bool} {Kk : Bool → Prop} {T : Prop} (k : Kk (a && b)) (h : a = true → Kk b → T) : if a = true then T else (∃ c, V.bl false = V.bl c ∧ Kk c) := by
  cases a with
  | true => rw [if_pos rfl]; exact h rfl k
  | false => rw [if_neg Bool.false_ne_true]; exact ⟨_, rfl, k⟩
def sp_may_be_step (C : Cl) : Sp := fun vs H Q _ => ∃ (a dx : Addr) (s : Stp) (n : Int), vs = [.ref a, .int n] ∧ H a = some (.ins C.S dx (stpF s)) ∧ Q (.bl (okStp s n)) H
def sp_is_length : Sp := fun vs H Q _ => ∃ n : Nat, vs = [.int (n : Int)] ∧ Q (.bl (okLen n)) H
def sp_step_at (C : Cl) (K : PySem.W.Frag) : Sp := fun vs H Q _ => ∃ (a : Addr) (xs : List Int) (j : Nat) (r n d w b : Int), vs = [.ref a, .int (j : Int)] ∧ SqL K H a (xs.map V.int) ∧ xs[j]? = some r ∧ xs[j + 1]? = some n ∧ xs[j + 2]? = some d ∧ xs[j + 3]? = some w ∧ xs[j + 4]? = some b ∧
  ∀ x dx, H x = none → H dx = none → dx ≠ x → Q (.ref x) (upd (upd H dx (.own x)) x (.ins C.S dx (stpF ⟨r, n, d, w, b⟩)))
/-- a new list of steps stands there -/
structure NewSteps (C : Cl) (H H' : Hp) (D : Addr) (l : List Stp) (g d : Nat → Addr) (n : Nat) : Prop where
  lst : H' D = some (.lst (refs g n))
  st : ∀ j s, j < n → l[j]? = some s → H' (g j) = some (.ins C.S (d j) (stpF s))
  fr : ∀ j, j < n → H (g j) = none ∧ g j ≠ D
  inj : ∀ i j, i < n → j < n → g i = g j → i = j
  sm : Same H H'
def sp_steps_of (C : Cl) (K : PySem.W.Frag) : Sp := fun vs H Q _ => ∃ (a : Addr) (xs : List Int), vs = [.ref a] ∧ SqL K H a (xs.map V.int) ∧ xs.length % 5 = 0 ∧ xs.length ≤ 80 ∧
  ∀ D g d H', H D = none → NewSteps C H H' D (stps xs) g d (stps xs).length → Q (.ref D) H'
def sp_add_procedure (C : Cl) (K : PySem.W.Frag) : Sp := fun vs H Q _ => ∃ (L : Lay) (m : Off) (a : Addr) (xs : List Int), vs = [.ref (L.ad .off), .ref a] ∧ Rep C L H m ∧ WOff m ∧ SqL K H a (xs.map V.int) ∧ Wants C L H m Q (mProcedure m xs)
theorem ok_may_be_step (F : Fun K "may_be_step" "may_be_step" s_may_be_step f fd) (T : Txt K mg C.P C.S C.A C.X C.O) (g_is_role : Cal P w K mg base 1 "is_role" p_is_role sp_is_role) : FnOk P w K mg base CX0 2 f fd p_may_be_step (sp_may_be_step C) := by
  refine F.ok sc_may_be_step (fun vs H Q E h => ?_) (fun cdv A outer s H vs Q E hr h => ?_)
  · obtain ⟨a, dx, st, n, rfl, _⟩ := h
    rfl
  · obtain ⟨a, dx, st, n, rfl, hs, k⟩ := h
    refine ⟨_, (pss_cons (ps_if (pt_not (pt_val (pe_callC g_is_role (hr.mono (by decide)) rfl (pa_cons (pe_fld (pv 0) rfl) pa_nil)))) (pss_one (ps_ret pe_bl)) pss_nil)
      (pss_cons (ps_if (PW.pt (pw_or (pt_not (pt_chain op_le op_le pe_int (pe_fld (pv 0) rfl) (pe_cst rfl T.c_MOST_SIGNATURES))) (pw_or1 (pt_not (pt_chain op_le op_le pe_int (pe_fld (pv 0) rfl) (pe_cst rfl T.c_MOST_DAYS)))))) (pss_one (ps_ret pe_bl)) pss_nil)
      (pss_one (ps_ret (pe_and (pe_chain op_le op_le pe_int (pe_fld (pv 0) rfl) pe_int) (pe_one (pe_chain op_le op_le (pe_cst rfl T.c_NOWHERE) (pe_fld (pv 0) rfl) (pv 1)))))))), ?_⟩
    unfold okStp at k
    refine ⟨_, rfl, ⟨_, _, _, _, _, rfl, (hs), T.k_Step, T.n_Step_role, l_S_role, ⟨_, rfl, _, rfl, ifNot (fun c1 => ?_) fun c1 => ?_⟩⟩⟩
    · rw [c1, Bool.false_and] at k
      exact k
    rw [c1, Bool.true_and] at k
    refine ⟨_, rfl, ⟨_, _, _, _, _, rfl, (hs), T.k_Step, T.n_Step_signatures, l_S_signatures, ⟨_, _, rfl, rfl, _, rfl, chainT (b := decide (st.sig ≤ 3)) (ifNot (fun c2 => iteT ?_) fun c2 => ?_) fun _ k2 => ⟨_, _, rfl, rfl, _, rfl, k2⟩⟩⟩⟩
    · rw [c2, Bool.false_and, Bool.false_and] at k
      exact k
    rw [c2, Bool.true_and] at k
    refine ⟨_, rfl, ⟨_, _, _, _, _, rfl, (hs), T.k_Step, T.n_Step_days, l_S_days, ⟨_, _, rfl, rfl, _, rfl, chainT (b := decide (st.days ≤ 30)) (ifNot (fun c3 => ?_) fun c3 => ?_) fun _ k2 => ⟨_, _, rfl, rfl, _, rfl, k2⟩⟩⟩⟩
    · rw [c3, Bool.false_and] at k
      exact k
    rw [c3, Bool.true_and] at k
    refine ⟨_, rfl, ⟨_, _, _, _, _, rfl, (hs), T.k_Step, T.n_Step_writer_may_sign, l_S_writer_may_sign, ⟨_, _, rfl, rfl, _, rfl, ?_⟩⟩⟩
    have andB2 : ∀ {a b c : Bool} {Tt : Prop}, Q (.bl ((a && b) && c)) H → (a = true → (∃ x, V.bl b = .bl x ∧ if x = true then (Q (.bl c) H) else Q (.bl false) H) → Tt) → (if a = true then Tt else ∃ x, V.bl false = .bl x ∧ if x = true then (Q (.bl c) H) else Q (.bl false) H) := fun {a b c Tt} k h => by
      cases a with
      | true =>
        rw [if_pos rfl]
        refine h rfl ⟨_, rfl, ?_⟩
        cases b with
        | true => rw [if_pos rfl]; exact k
        | false => rw [if_neg Bool.false_ne_true]; exact k
      | false => rw [if_neg Bool.false_ne_true]; exact ⟨_, rfl, by rw [if_neg Bool.false_ne_true]; exact k⟩
    refine chainT (Kk := fun c => if c = true then _ else Q (.bl false) H) (b := decide (st.own ≤ 1)) (ifB (fun c4 => ?_) fun c4 => ?_) fun _ k2 => ⟨_, _, rfl, rfl, _, rfl, k2⟩
    · rw [c4, Bool.true_and] at k
      refine ⟨_, rfl, ⟨_, _, _, _, _, rfl, (hs), T.k_Step, T.n_Step_goes_back_to, l_S_goes_back_to, ⟨_, _, rfl, rfl, _, rfl, andB k fun _ k3 => ?_⟩⟩⟩
      exact ⟨_, rfl, _, _, rfl, rfl, k3⟩
    · rw [c4, Bool.false_and] at k
      exact k
theorem ok_is_length_of_steps (F : Fun K "is_length_of_steps" "is_length_of_steps" s_is_length_of_steps f fd) (T : Txt K mg C.P C.S C.A C.X C.O) : FnOk P w K mg base CX0 1 f fd p_is_length_of_steps sp_is_length := by
  refine F.ok sc_is_length_of_steps (fun vs H Q E h => ?_) (fun cdv A outer s H vs Q E hr h => ?_)
  · obtain ⟨n, rfl, _⟩ := h
    rfl
  · obtain ⟨n, rfl, k⟩ := h
    refine ⟨_, (pss_one (ps_ret (pe_and (pe_cmpR op_eq (pe_op op_mod (pv 0) (pe_cst rfl T.c_NUMBERS_OF_A_STEP)) pe_int (nomark _)) (pe_one (pe_chain op_le op_le pe_int (pe_op op_fdiv (pv 0) (pe_cst rfl T.c_NUMBERS_OF_A_STEP)) (pe_cst rfl T.c_MOST_STEPS)))))), ?_⟩
    unfold okLen at k
    refine ⟨_, rfl, _, _, rfl, rfl, (by show (0 : Int) < 5; decide), rfl, _, rfl, andV k fun _ k => ?_⟩
    exact ⟨_, rfl, _, _, rfl, rfl, ⟨by decide, by decide⟩, _, _, rfl, rfl, _, rfl, andB k fun _ k => ⟨_, _, rfl, rfl, k⟩⟩
theorem int_at {xs : List Int} {j : Nat} {z : Int} (h : xs[j]? = some z) : (xs.map V.int)[j]? = some (V.int z) := by
  rw [List.getElem?_map, h]
  rfl
theorem ok_step_at (F : Fun K "step_at" "step_at" s_step_at f fd) (T : Txt K mg C.P C.S C.A C.X C.O) (g_Step : Mak P w K mg base 1 "Step" C.S p_Step (sp_Step C)) : FnOk P w K mg base CX0 3 f fd p_step_at (sp_step_at C K) := by
  refine F.ok sc_step_at (fun vs H Q E h => ?_) (fun cdv A outer s H vs Q E hr h => ?_)
  · obtain ⟨a, xs, j, r, n, d, ww, b, rfl, _⟩ := h
    rfl
  · obtain ⟨a, xs, j, r, n, d, ww, b, rfl, hS, h0, h1, h2, h3, h4, k⟩ := h
    refine ⟨_, (pss_one (ps_ret (pe_makeC g_Step (hr.mono (by decide)) rfl (pa_cons (pe_ix ix_list (pv 0) (pv 1) (fun _ _ => rfl)) (pa_cons (pe_ix ix_list (pv 0) (pe_op op_add (pv 1) pe_int) (fun _ _ => rfl)) (pa_cons (pe_ix ix_list (pv 0) (pe_op op_add (pv 1) pe_int) (fun _ _ => rfl)) (pa_cons (pe_ix ix_list (pv 0) (pe_op op_add (pv 1) pe_int) (fun _ _ => rfl)) (pa_cons (pe_ix ix_list (pv 0) (pe_op op_add (pv 1) pe_int) (fun _ _ => rfl)) pa_nil)))))))), ?_⟩
    refine ⟨_, rfl, _, rfl, rd_ix hS rfl (int_at h0) ⟨_, rfl, _, rfl, _, _, rfl, rfl, rd_ix hS rfl (int_at h1) ⟨_, rfl, _, rfl, _, _, rfl, rfl, rd_ix hS rfl (int_at h2) ⟨_, rfl, _, rfl, _, _, rfl, rfl, rd_ix hS rfl (int_at h3) ⟨_, rfl, _, rfl, _, _, rfl, rfl, rd_ix hS rfl (int_at h4) ?_⟩⟩⟩⟩⟩
    refine fun x dx nx nd ne => ⟨x, dx, r, n, d, ww, b, rfl, upd_same, rfl, ?_⟩
    rw [upd_upd]
    exact k x dx nx nd ne
theorem stps_get : ∀ (xs : List Int) (j : Nat), 5 * j + 5 ≤ xs.length → ∃ r n d w b, xs[5 * j]? = some r ∧ xs[5 * j + 1]? = some n ∧ xs[5 * j + 2]? = some d ∧ xs[5 * j + 3]? = some w ∧ xs[5 * j + 4]? = some b ∧ (stps xs)[j]? = some ⟨r, n, d, w, b⟩
  | r :: n :: d :: w :: b :: l, 0, _ => ⟨r, n, d, w, b, rfl, rfl, rfl, rfl, rfl, rfl⟩
  | r :: n :: d :: w :: b :: l, j + 1, h => by
    have h' : 5 * j + 5 ≤ l.length := by
      have : (r :: n :: d :: w :: b :: l).length = l.length + 5 := rfl
      omega
    obtain ⟨r', n', d', w', b', h0, h1, h2, h3, h4, h5⟩ := stps_get l j h'
    have e : 5 * (j + 1) = 5 * j + 1 + 1 + 1 + 1 + 1 := by omega
    rw [e]
    exact ⟨r', n', d', w', b', h0, h1, h2, h3, h4, h5⟩
  | [], j, h => by simp at h
  | [_], j, h => by simp at h
  | [_, _], j, h => by simp at h
  | [_, _, _], j, h => by simp at h
  | [_, _, _, _], j, h => by simp at h
theorem rg5_all : ∀ n : Fin 81, n.val % 5 = 0 → Builtin.Range.small 0 (n.val : Int) 5 = true ∧ Builtin.Range.rangeSize 0 (n.val : Int) 5 = ((n.val / 5 : Nat) : Int) := by decide +kernel
theorem rg5 {n : Nat} (h : n % 5 = 0) (h2 : n ≤ 80) : RgC 0 (n : Int) 5 (n / 5) :=
  ⟨by decide, by decide, (rg5_all ⟨n, by omega⟩ h).1, (rg5_all ⟨n, by omega⟩ h).2⟩
theorem ok_steps_of (F : Fun K "steps_of" "steps_of" s_steps_of f fd) (T : Txt K mg C.P C.S C.A C.X C.O) (g_step_at : Cal P w K mg base 3 "step_at" p_step_at (sp_step_at C K)) : FnOk P w K mg base CX0 4 f fd p_steps_of (sp_steps_of C K) := by
  refine F.ok sc_steps_of (fun vs H Q E h => ?_) (fun cdv A outer s H vs Q E hr h => ?_)
  · obtain ⟨a, xs, rfl, _⟩ := h
    rfl
  · obtain ⟨a, xs, rfl, hS, h5, h80, k⟩ := h
    refine ⟨_, (pss_one (ps_ret (pe_lc (own := [("first", 1)]) rfl sc_steps_of.nd (pi_range3 (by rfl) T.b_range (pa_cons pe_int (pa_cons (pe_callB call_len_seq (by rfl) T.b_len PySem.boot_len (pa_cons (pv 0) pa_nil)) (pa_cons (pe_cst rfl T.c_NUMBERS_OF_A_STEP) pa_nil)))) (blkOk_by (N := ["numbers", "first"]) (sc := defScope s_steps_of) (by decide +kernel)) (fun _ _ _ _ _ => (pg_name (i := 1) sc_steps_of.nd rfl (Or.inl rfl))) (fun _ _ _ _ _ => pts_nil) (fun _ _ _ _ _ => (pe_callC g_step_at (hr.mono (by decide)) rfl (pa_cons (pv 0) (pa_cons (pv 1) pa_nil))))))), ?_⟩
    have el : (stps xs).length = xs.length / 5 := stps_len xs
    refine ⟨_, rfl, _, _, rfl, .inl hS, 0, ((xs.map V.int).length : Nat), 5, xs.length / 5, rfl, by rw [List.length_map]; exact rg5 h5 h80, fun D hD => lc_rangeC
      (fun i H' => ∃ g d, NewSteps C H H' D (stps xs) g d i) ⟨fun _ => 0, fun _ => 0, upd_same, fun j s hj => absurd hj (Nat.not_lt_zero _), fun j hj => absurd hj (Nat.not_lt_zero _), fun i j hi => absurd hi (Nat.not_lt_zero _), same_new hD⟩ ?_ ?_⟩
    · rintro i H' hi ⟨g, d, N⟩
      obtain ⟨r, n, dd, ww, b, h0, h1, h2, h3, h4, hst⟩ := stps_get xs i (by omega)
      have ev : (0 : Int) + (i : Nat) * 5 = ((5 * i : Nat) : Int) := by omega
      refine ⟨rfl, _, rfl, _, rfl, a, xs, 5 * i, r, n, dd, ww, b, by rw [ev]; rfl, N.sm.seq hS, h0, h1, h2, h3, h4, fun x dx nx nd ne => ?_⟩
      have hDx : D ≠ x := ne_of_none N.lst nx
      have hDd : D ≠ dx := ne_of_none N.lst nd
      refine ⟨_, (by rw [upd_ne hDx, upd_ne hDd]; exact N.lst), by rw [refs_len]; exact Nat.lt_of_lt_of_le hi (Nat.le_trans (show xs.length / 5 ≤ 80 by omega) (by decide)), fun j => if j = i then x else g j, fun j => if j = i then dx else d j, ?_, fun j s hj hs => ?_, fun j hj => ?_, fun p q hp hq e => ?_, fun c o e => ?_⟩
      · rw [upd_same, refs_succ, if_pos rfl, refs_congr (f := fun j => if j = i then x else g j) (g := g) fun j hj => if_neg (Nat.ne_of_lt hj)]
      · by_cases z : j = i
        · subst z
          rw [if_pos rfl, if_pos rfl, upd_ne hDx.symm, upd_same]
          rw [hst] at hs
          rw [Option.some.inj hs]
        · have hj' : j < i := by omega
          rw [if_neg z, if_neg z, upd_ne (N.fr j hj').2]
          have q := N.st j s hj' hs
          rw [upd_ne (ne_of_none q nx), upd_ne (ne_of_none q nd)]
          exact q
      · by_cases z : j = i
        · rw [if_pos z]
          exact ⟨N.sm.free nx, hDx.symm⟩
        · rw [if_neg z]
          exact N.fr j (by omega)
      · by_cases z1 : p = i
        · by_cases z2 : q = i
          · rw [z1, z2]
          · rw [if_pos z1, if_neg z2] at e
            obtain ⟨s, hs⟩ := get_of_lt (show q < (stps xs).length by omega)
            exact absurd e.symm (ne_of_none (N.st q s (by omega) hs) nx)
        · by_cases z2 : q = i
          · rw [if_neg z1, if_pos z2] at e
            obtain ⟨s, hs⟩ := get_of_lt (show p < (stps xs).length by omega)
            exact absurd e (ne_of_none (N.st p s (by omega) hs) nx)
          · rw [if_neg z1, if_neg z2] at e
            exact N.inj p q (by omega) (by omega) e
      · rw [upd_ne (ne_of_none e hD)]
        have q := N.sm c o e
        rw [upd_ne (ne_of_none q nx), upd_ne (ne_of_none q nd)]
        exact q
    · rintro H' ⟨g, d, N⟩
      exact k D g d H' hD (by rw [el]; exact N)
theorem okFrom_snoc : ∀ (l : List Stp) (k : Int) (s : Stp), okFrom k (l ++ [s]) = (okFrom k l && okStp s (k + l.length))
  | [], k, s => by
    show (okStp s k && true) = (true && okStp s (k + 0))
    rw [Bool.and_true, Bool.true_and, Int.add_zero]
  | a :: l, k, s => by
    show (okStp a k && okFrom (k + 1) (l ++ [s])) = ((okStp a k && okFrom (k + 1) l) && okStp s (k + ((a :: l).length : Nat)))
    rw [okFrom_snoc l (k + 1) s, Bool.and_assoc]
    congr 3
    rw [List.length_cons]
    omega
theorem ok_add_procedure (F : Fun K "add_procedure" "add_procedure" s_add_procedure f fd) (T : Txt K mg C.P C.S C.A C.X C.O) (g_is_length_of_steps : Cal P w K mg base 1 "is_length_of_steps" p_is_length_of_steps sp_is_length)
    (g_steps_of : Cal P w K mg base 4 "steps_of" p_steps_of (sp_steps_of C K)) (g_may_be_step : Cal P w K mg base 2 "may_be_step" p_may_be_step (sp_may_be_step C)) :
    FnOk P w K mg base CX0 5 f fd p_add_procedure (sp_add_procedure C K) := by
  refine F.ok sc_add_procedure (fun vs H Q E h => ?_) (fun cdv A outer s H vs Q E hr h => ?_)
  · obtain ⟨L, m, a, xs, rfl, _⟩ := h
    rfl
  · obtain ⟨L, m, a, xs, rfl, R, W, hS, k⟩ := h
    refine ⟨_, (pss_cons (ps_if (pt_not (pt_val (pe_callC g_is_length_of_steps (hr.mono (by decide)) rfl (pa_cons (pe_callB call_len_seq (by rfl) T.b_len PySem.boot_len (pa_cons (pv 1) pa_nil)) pa_nil)))) (pss_one (ps_ret (pe_cst rfl T.c_NOT_ONE_THAT_MAY_BE))) pss_nil)
      (pss_cons (ps_set (i := 2) sc_add_procedure.nd rfl (Or.inl rfl) (pe_callC g_steps_of (hr.mono (by decide)) rfl (pa_cons (pv 1) pa_nil)))
      (pss_cons (ps_if (pt_not (pt_val (pe_callB (cr_all rfl) (by rfl) T.b_all PyProof.Rows.boot_all (pa_cons (pe_lc (own := [("number", 3), ("step", 4)]) rfl sc_add_procedure.nd (pi_enum (by rfl) T.b_enumerate (pa_cons (pv 2) pa_nil)) (blkOk_by (N := ["office", "numbers", "steps", "number", "step"]) (sc := defScope s_add_procedure) (by decide +kernel)) (fun _ _ _ _ _ => (pg_tupK (K := K) (n := 2) rfl rfl (pgs_cons (pg_name (i := 3) sc_add_procedure.nd rfl (Or.inl rfl)) (pgs_cons (pg_name (i := 4) sc_add_procedure.nd rfl (Or.inl rfl)) pgs_nil)))) (fun _ _ _ _ _ => pts_nil) (fun _ _ _ _ _ => (pe_callC g_may_be_step (hr.mono (by decide)) rfl (pa_cons (pv 4) (pa_cons (pv 3) pa_nil))))) pa_nil)))) (pss_one (ps_ret (pe_cst rfl T.c_NOT_ONE_THAT_MAY_BE))) pss_nil)
      (pss_cons (ps_if (pt_cmpR op_eq (pe_callB call_len_seq (by rfl) T.b_len PySem.boot_len (pa_cons (pe_fld (pv 0) rfl) pa_nil)) (pe_cst rfl T.c_MOST_PROCEDURES) (nomark _)) (pss_one (ps_ret (pe_cst rfl T.c_FULL))) pss_nil)
      (pss_cons (ps_expr (pe_bm PySem.F.plainAttrs_list PySem.F.slot_list_append PySem.F.type_list_append mt_append (pe_fld (pv 0) rfl) (pa_cons (pv 2) pa_nil)))
      (pss_one (ps_ret (pe_op op_sub (pe_callB call_len_seq (by rfl) T.b_len PySem.boot_len (pa_cons (pe_fld (pv 0) rfl) pa_nil)) pe_int)))))))), ?_⟩
    refine ⟨_, rfl, _, _, rfl, .inl hS, (xs.map V.int).length, rfl, _, rfl, ?_⟩
    rw [List.length_map]
    refine ifNot (fun c1 => k.no R (by unfold mProcedure; rw [if_pos c1]) (Same.refl _)) fun c1 => ?_
    have o1 : ¬ okLen xs.length = false := by rw [c1]; exact Bool.noConfusion
    obtain ⟨l1, l2, l3⟩ := okLen_iff.mp c1
    refine ⟨_, rfl, a, xs, rfl, hS, l1, by omega, fun D g d H1 nD N => ?_⟩
    refine ⟨_, rfl, D, _, rfl, SqL.of N.lst, fun D2 hD2 => lc_enum (K := K) (xs := refs g (stps xs).length)
      (fun i H' => ∃ bs : List Bool, H' D2 = some (.lst (bs.map V.bl)) ∧ Same H1 H' ∧ bs.length = i ∧ bs.all id = okFrom 0 ((stps xs).take i)) ⟨[], upd_same, same_new hD2, rfl, rfl⟩ (fun i H' _ ⟨_, _, q, _⟩ => q.seq (SqL.of N.lst)) ?_ ?_⟩
    · rintro i v H' hi ⟨bs, hb, sm, hl, ha⟩ Tt hT
      obtain ⟨hlt, rfl⟩ := refs_get hi
      obtain ⟨st, hst⟩ := get_of_lt hlt
      have s2 : Same H' (upd H' Tt (.tup [.int (i : Nat), .ref (g i)])) := same_new hT
      have hst2 := s2 _ _ (sm _ _ (N.st i st hlt hst))
      refine ⟨Tt, _, rfl, SqT.of upd_same, rfl, _, _, rfl, _, _, rfl, rfl, rfl, _, rfl, _, rfl, _, _, st, (i : Nat), rfl, hst2, _, s2 _ _ hb, ?_, bs ++ [okStp st (i : Nat)], ?_, fun c o e => ?_, ?_, ?_⟩
      · rw [List.length_map, hl]
        exact Nat.lt_of_lt_of_le hlt (by rw [stps_len]; exact Nat.le_trans (show xs.length / 5 ≤ 80 by omega) (by decide))
      · rw [upd_same, List.map_append]
        rfl
      · rw [upd_ne (ne_of_none e hD2)]
        exact s2 _ _ (sm c o e)
      · rw [List.length_append, hl]
        rfl
      · rw [List.take_add_one, hst]
        show (bs ++ [_]).all id = okFrom 0 (_ ++ [st])
        rw [okFrom_snoc, List.all_append, ha, List.length_take, Nat.min_eq_left (Nat.le_of_lt hlt)]
        show (_ && (okStp st (i : Nat) && true)) = _
        rw [Bool.and_true, Int.zero_add]
    · rintro H' ⟨bs, hb, sm, hl, ha⟩
      rw [refs_len, List.take_length] at ha
      refine ⟨D2, bs, rfl, SqL.of hb, _, rfl, ?_⟩
      rw [ha]
      have sH : Same H H' := N.sm.trans sm
      refine ifNot (fun c2 => k.no R (by unfold mProcedure; rw [if_neg o1, if_pos c2]) sH) fun c2 => ?_
      have o2 : ¬ okFrom 0 (stps xs) = false := by rw [c2]; exact Bool.noConfusion
      have R2 := R.same sH
      refine ⟨_, rfl, ⟨_, _, _, _, _, rfl, (R2.off), T.k_Office, T.n_Office_procedures, l_O_procedures, ⟨_, _, rfl, .inl (SqL.of R2.prl), rfl, _, rfl, ?_⟩⟩⟩
      rw [refs_len]
      refine ifEq (fun c3 => k.no R (by unfold mProcedure; rw [if_neg o1, if_neg o2, if_pos c3]) sH) fun c3 => ?_
      refine ⟨_, rfl, ⟨_, _, _, _, _, rfl, (R2.off), T.k_Office, T.n_Office_procedures, l_O_procedures, ⟨.inl ⟨rfl, _, SqL.of R2.prl⟩, _, rfl, _, _, _, rfl, rfl, R2.prl, by rw [refs_len]; exact Nat.lt_of_le_of_lt W.k (by decide), ?_⟩⟩⟩
      have hoff : upd H' (L.ad .prl) (.lst (refs (fun i => L.ad (.prc i)) m.procs.length ++ [.ref D])) (L.ad .off) = some (.ins C.O (L.dx .off) (offF L m)) := by
        rw [upd_ne (ne_of R2.off R2.prl fun z => nomatch z)]
        exact R2.off
      refine ⟨_, rfl, ⟨_, _, _, _, _, rfl, (hoff), T.k_Office, T.n_Office_procedures, l_O_procedures, ⟨_, _, rfl, .inl (SqL.of upd_same), _, _, rfl, rfl, ?_⟩⟩⟩
      have hDp : D ≠ L.ad .prl := (ne_of_none R.prl nD).symm
      obtain ⟨L', G⟩ := R.addPrc (D := D) (g := g) (d := d) (l := stps xs) (H' := upd H' (L.ad .prl) (.lst (refs (fun i => L.ad (.prc i)) m.procs.length ++ [.ref D]))) nD (by rw [upd_ne hDp]; exact sm _ _ N.lst) N.fr
        (fun j s hs => by rw [upd_ne (ne_of_none R.prl (N.fr j (lt_of_get hs)).1).symm]; exact sm _ _ (N.st j s (lt_of_get hs) hs)) N.inj upd_same (fun b o e hb => by rw [upd_ne hb]; exact sH b o e)
      have ev : (((refs (fun i => L.ad (.prc i)) m.procs.length ++ [V.ref D]).length : Nat) : Int) - 1 = m.procs.length := by
        rw [List.length_append, refs_len]
        show ((m.procs.length + 1 : Nat) : Int) - 1 = _
        omega
      have kk := k.yes (by unfold mProcedure; rw [if_neg o1, if_neg o2, if_neg c3]) G
      rw [← ev] at kk
      exact kk
end
end Po
namespace Po
open PySem L2
/-! ### what's told -/
/-- a new list of numbers -/
def Told (H : Hp) (Q : VK) (l : List Int) : Prop := ∀ p H', H p = none → Same H H' → H' p = some (.lst (l.map V.int)) → Q (.ref p) H'
def sp_with_count : Sp := fun vs H Q _ => ∃ (a : Addr) (l : List Int), vs = [.ref a] ∧ H a = some (.lst (l.map V.int)) ∧ l.length ≤ 1000 ∧ Told H Q ((l.length : Int) :: l)
def sp_tell (C : Cl) : Sp := fun vs H Q _ => ∃ (L : Lay) (m : Off) (k : Int), vs = [.ref (L.ad .off), .int k] ∧ Rep C L H m ∧ Told H Q (mTell m k)
def sp_acts (C : Cl) : Sp := fun vs H Q _ => ∃ (L : Lay) (m : Off) (k : Int), vs = [.ref (L.ad .off), .int k] ∧ Rep C L H m ∧ AB m 350 ∧ Told H Q (mActs m k)
def sp_who (C : Cl) : Sp := fun vs H Q _ => ∃ (L : Lay) (m : Off) (k : Int), vs = [.ref (L.ad .off), .int k] ∧ Rep C L H m ∧ WOff m ∧ Told H Q (mWho m k)
def sp_waiting (C : Cl) : Sp := fun vs H Q _ => ∃ (L : Lay) (m : Off) (p : Int), vs = [.ref (L.ad .off), .int p] ∧ Rep C L H m ∧ WOff m ∧ Told H Q (mWaiting m p)
section
variable {P : Program} {w : World} {K : PySem.W.Frag} {mg : Str → Option Value} {base : Heap} {C : Cl} {f : Addr} {fd : FuncData}
theorem Told.mono {H H' : Hp} {Q : VK} {l : List Int} (h : Told H Q l) (s : Same H H') : Told H' Q l := fun p H2 hp s2 e => h p H2 (s.free hp) (s.trans s2) e
theorem Told.one {H : Hp} {Q : VK} {z : Int} (h : Told H Q [z]) : ([V.int z] : List V).length ≤ sizeLine ∧ ∀ p, H p = none → Q (.ref p) (upd H p (.lst [V.int z])) := ⟨by show 1 ≤ sizeLine; decide, fun p hp => h p _ hp (same_new hp) upd_same⟩
theorem ok_with_count (F : Fun K "with_count" "with_count" s_with_count f fd) (T : Txt K mg C.P C.S C.A C.X C.O) : FnOk P w K mg base CX0 1 f fd p_with_count sp_with_count := by
  refine F.ok sc_with_count (fun vs H Q E h => ?_) (fun cdv A outer s H vs Q E hr h => ?_)
  · obtain ⟨a, l, rfl, _⟩ := h
    rfl
  · obtain ⟨a, l, rfl, ha, hl, k⟩ := h
    refine ⟨_, (pss_one (ps_ret (pe_op op_cat (pe_lst (pa_cons (pe_callB call_len_seq (by rfl) T.b_len PySem.boot_len (pa_cons (pv 0) pa_nil)) pa_nil)) (pv 0)))), ?_⟩
    refine ⟨_, rfl, _, _, rfl, .inl (SqL.of ha), (by show 1 ≤ sizeLine; decide), fun q hq => ⟨_, rfl, q, a, _, _, rfl, rfl, upd_same, by rw [upd_ne (ne_of_none ha hq)]; exact ha, ?_, fun p hp => ?_⟩⟩
    · rw [List.length_map]
      show 1 + l.length ≤ sizeLine
      exact Nat.le_trans (show 1 + l.length ≤ 1001 by omega) (by decide)
    · refine k p _ ((same_new (o := .lst [.int ((l.map V.int).length : Nat)]) hq).free hp) ((same_new hq).trans (same_new hp)) ?_
      rw [upd_same, List.length_map]
      rfl
theorem ok_tell_paper (F : Fun K "tell_paper" "tell_paper" s_tell_paper f fd) (T : Txt K mg C.P C.S C.A C.X C.O) (g_has : Cal P w K mg base 1 "has" p_has (sp_has K)) : FnOk P w K mg base CX0 2 f fd p_tell_paper (sp_tell C) := by
  refine F.ok sc_tell_paper (fun vs H Q E h => ?_) (fun cdv A outer s H vs Q E hr h => ?_)
  · obtain ⟨L, m, z, rfl, _⟩ := h
    rfl
  · obtain ⟨L, m, z, rfl, R, k⟩ := h
    refine ⟨_, (pss_cons (ps_if (pt_not (pt_val (pe_callC g_has (hr.mono (by decide)) rfl (pa_cons (pe_fld (pv 0) rfl) (pa_cons (pv 1) pa_nil))))) (pss_one (ps_ret (pe_lst (pa_cons (pe_cst rfl T.c_NOT_ONE_THAT_MAY_BE) pa_nil)))) pss_nil)
      (pss_cons (ps_set (i := 2) sc_tell_paper.nd rfl (Or.inl rfl) (pe_ix ix_list (pe_fld (pv 0) rfl) (pv 1) (fun _ _ => rfl)))
      (pss_cons (ps_set (i := 3) sc_tell_paper.nd rfl (Or.inl rfl) (pe_lst (pa_cons (pe_fld (pv 2) rfl) (pa_cons (pe_fld (pv 2) rfl) (pa_cons (pe_fld (pv 2) rfl) (pa_cons (pe_fld (pv 2) rfl) pa_nil))))))
      (pss_one (ps_ret (pe_op op_cat (pe_op op_cat (pe_lst (pa_cons (pe_fld (pv 2) rfl) (pa_cons (pe_fld (pv 2) rfl) (pa_cons (pe_fld (pv 2) rfl) pa_nil)))) (pv 3)) (pe_lst (pa_cons (pe_callB call_len_seq (by rfl) T.b_len PySem.boot_len (pa_cons (pe_fld (pv 2) rfl) pa_nil)) pa_nil)))))))), ?_⟩
    unfold mTell at k
    refine ⟨_, rfl, ⟨_, _, _, _, _, rfl, (R.off), T.k_Office, T.n_Office_papers, l_O_papers, ⟨_, rfl, ⟨_, _, _, _, rfl, SqL.of R.pal, refs_len _ _, ⟨_, rfl, ifNot (fun c => ?_) fun c => ?_⟩⟩⟩⟩⟩
    · rw [if_pos c] at k
      exact k.one
    rw [if_neg (by rw [c]; exact Bool.noConfusion)] at k
    have hx := has_pap c
    have hp := R.pap hx
    refine ⟨_, rfl, ⟨_, _, _, _, _, rfl, (R.off), T.k_Office, T.n_Office_papers, l_O_papers, ⟨_, rfl, R.ixPap c ?_⟩⟩⟩
    refine ⟨_, rfl, ⟨_, _, _, _, _, rfl, (hp), T.k_Paper, T.n_Paper_step, l_X_step, ⟨_, rfl, ⟨_, _, _, _, _, rfl, (hp), T.k_Paper, T.n_Paper_turn, l_X_turn, ⟨_, rfl, ⟨_, _, _, _, _, rfl, (hp), T.k_Paper, T.n_Paper_level, l_X_level, ⟨_, rfl, ⟨_, _, _, _, _, rfl, (hp), T.k_Paper, T.n_Paper_due, l_X_due, ⟨(by show 4 ≤ sizeLine; decide), fun q hq => ?_⟩⟩⟩⟩⟩⟩⟩⟩⟩
    have s1 : Same H (upd H q (.lst [.int (pap m z).step, .int (pap m z).turn, .int (pap m z).level, .int (pap m z).due])) := same_new hq
    have hp1 := s1 _ _ hp
    refine ⟨_, rfl, ⟨_, _, _, _, _, rfl, (hp1), T.k_Paper, T.n_Paper_state, l_X_state, ⟨_, rfl, ⟨_, _, _, _, _, rfl, (hp1), T.k_Paper, T.n_Paper_procedure, l_X_procedure, ⟨_, rfl, ⟨_, _, _, _, _, rfl, (hp1), T.k_Paper, T.n_Paper_writer, l_X_writer, ⟨(by show 3 ≤ sizeLine; decide), fun q2 hq2 => ?_⟩⟩⟩⟩⟩⟩⟩
    have s2 : Same (upd H q (.lst [.int (pap m z).step, .int (pap m z).turn, .int (pap m z).level, .int (pap m z).due])) (upd (upd H q (.lst [.int (pap m z).step, .int (pap m z).turn, .int (pap m z).level, .int (pap m z).due])) q2 (.lst [.int (pap m z).state, .int (pap m z).proc, .int (pap m z).writer])) := same_new hq2
    refine ⟨_, rfl, q2, q, _, _, rfl, rfl, upd_same, s2 _ _ upd_same, (by show 7 ≤ sizeLine; decide), fun q3 hq3 => ?_⟩
    have s3 := (s1.trans s2).trans (same_new (o := .lst ([.int (pap m z).state, .int (pap m z).proc, .int (pap m z).writer] ++ [.int (pap m z).step, .int (pap m z).turn, .int (pap m z).level, .int (pap m z).due])) hq3)
    have hp3 := s3 _ _ hp
    refine ⟨_, rfl, ⟨_, _, _, _, _, rfl, (hp3), T.k_Paper, T.n_Paper_acts, l_X_acts, ⟨_, _, rfl, .inl (SqL.of (s3 _ _ (R.acl hx))), (by show 1 ≤ sizeLine; decide), fun q4 hq4 => ?_⟩⟩⟩
    refine ⟨q3, q4, _, _, rfl, rfl, by rw [upd_ne (ne_of_none upd_same hq4)]; exact upd_same, upd_same, (by show 8 ≤ sizeLine; decide), fun p hpn => ?_⟩
    refine k p _ (s3.free ((same_new hq4).free hpn)) (s3.trans ((same_new hq4).trans (same_new hpn))) ?_
    rw [upd_same, refs_len]
    rfl
theorem flat_take {l : List Ac} {i : Nat} {a : Ac} (h : l[i]? = some a) : ((l.take (i + 1)).flatMap fun a => [a.step, a.turn, a.by_, a.for_, a.signed]) = ((l.take i).flatMap fun a => [a.step, a.turn, a.by_, a.for_, a.signed]) ++ [a.step, a.turn, a.by_, a.for_, a.signed] := by
  rw [List.take_add_one, h, List.flatMap_append]
  rfl
theorem ok_tell_acts (F : Fun K "tell_acts" "tell_acts" s_tell_acts f fd) (T : Txt K mg C.P C.S C.A C.X C.O) (g_has : Cal P w K mg base 1 "has" p_has (sp_has K)) : FnOk P w K mg base CX0 2 f fd p_tell_acts (sp_acts C) := by
  refine F.ok sc_tell_acts (fun vs H Q E h => ?_) (fun cdv A outer s H vs Q E hr h => ?_)
  · obtain ⟨L, m, z, rfl, _⟩ := h
    rfl
  · obtain ⟨L, m, z, rfl, R, hab, k⟩ := h
    refine ⟨_, (pss_cons (ps_if (pt_not (pt_val (pe_callC g_has (hr.mono (by decide)) rfl (pa_cons (pe_fld (pv 0) rfl) (pa_cons (pv 1) pa_nil))))) (pss_one (ps_ret (pe_lst (pa_cons (pe_cst rfl T.c_NOT_ONE_THAT_MAY_BE) pa_nil)))) pss_nil)
      (pss_cons (ps_set (i := 2) sc_tell_acts.nd rfl (Or.inl rfl) (pe_ix ix_list (pe_fld (pv 0) rfl) (pv 1) (fun _ _ => rfl)))
      (pss_cons (ps_set (i := 3) sc_tell_acts.nd rfl (Or.inl rfl) (pe_lst (pa_cons (pe_callB call_len_seq (by rfl) T.b_len PySem.boot_len (pa_cons (pe_fld (pv 2) rfl) pa_nil)) pa_nil)))
      (pss_cons (ps_for PassesOwn.never rfl (pi_list (pe_fld (pv 2) rfl)) (pg_name (i := 4) sc_tell_acts.nd rfl (Or.inl rfl)) (pss_one (ps_expr (pe_bm PySem.F.plainAttrs_list PySem.F.slot_list_extend PySem.F.type_list_extend mt_extend (pv 3) (pa_cons (pe_lst (pa_cons (pe_fld (pv 4) rfl) (pa_cons (pe_fld (pv 4) rfl) (pa_cons (pe_fld (pv 4) rfl) (pa_cons (pe_fld (pv 4) rfl) (pa_cons (pe_fld (pv 4) rfl) pa_nil)))))) pa_nil)))))
      (pss_one (ps_ret (pv 3))))))), ?_⟩
    unfold mActs at k
    refine ⟨_, rfl, ⟨_, _, _, _, _, rfl, (R.off), T.k_Office, T.n_Office_papers, l_O_papers, ⟨_, rfl, ⟨_, _, _, _, rfl, SqL.of R.pal, refs_len _ _, ⟨_, rfl, ifNot (fun c => ?_) fun c => ?_⟩⟩⟩⟩⟩
    · rw [if_pos c] at k
      exact k.one
    rw [if_neg (by rw [c]; exact Bool.noConfusion)] at k
    have hx := has_pap c
    have hp := R.pap hx
    have hlen := hab.pap z
    refine ⟨_, rfl, ⟨_, _, _, _, _, rfl, (R.off), T.k_Office, T.n_Office_papers, l_O_papers, ⟨_, rfl, R.ixPap c ?_⟩⟩⟩
    refine ⟨_, rfl, ⟨_, _, _, _, _, rfl, (hp), T.k_Paper, T.n_Paper_acts, l_X_acts, ⟨_, _, rfl, .inl (SqL.of (R.acl hx)), (by show 1 ≤ sizeLine; decide), fun p hpn => ?_⟩⟩⟩
    rw [refs_len]
    have s0 : Same H (upd H p (.lst [.int ((pap m z).acts.length : Nat)])) := same_new hpn
    refine ⟨_, rfl, ⟨_, _, _, _, _, rfl, ((s0 _ _ hp)), T.k_Paper, T.n_Paper_acts, l_X_acts, ⟨_, rfl, ⟨_, SqL.of (s0 _ _ (R.acl hx))⟩, for_list (K := K) (xs := refs (fun j => L.ad (.act z.toNat j)) (pap m z).acts.length)
      (fun i σ H' => (∃ v, σ = [some (.ref (L.ad .off)), some (.int z), some (.ref (L.ad (.pap z.toNat))), some (.ref p), v]) ∧ Same H H' ∧ H' p = some (.lst ((((pap m z).acts.length : Int) :: ((pap m z).acts.take i).flatMap fun a => [a.step, a.turn, a.by_, a.for_, a.signed]).map V.int)))
      ⟨⟨none, rfl⟩, s0, upd_same⟩ (fun i σ H' _ q => q.2.1.seq (SqL.of (R.acl hx))) ?_ ?_⟩⟩⟩
    · rintro i v σ H' hi ⟨⟨v4, rfl⟩, sm, ht⟩
      obtain ⟨hlt, rfl⟩ := refs_get hi
      obtain ⟨ac, hac⟩ := get_of_lt hlt
      have ha := (R.same sm).act hx hac
      refine ⟨_, rfl, .inl ⟨rfl, _, SqL.of ht⟩, _, rfl, ⟨_, _, _, _, _, rfl, (ha), T.k_Act, T.n_Act_step, l_A_step, ⟨_, rfl, ⟨_, _, _, _, _, rfl, (ha), T.k_Act, T.n_Act_turn, l_A_turn, ⟨_, rfl, ⟨_, _, _, _, _, rfl, (ha), T.k_Act, T.n_Act_by, l_A_by, ⟨_, rfl, ⟨_, _, _, _, _, rfl, (ha), T.k_Act, T.n_Act_behalf, l_A_behalf, ⟨_, rfl, ⟨_, _, _, _, _, rfl, (ha), T.k_Act, T.n_Act_signed, l_A_signed, ⟨(by show 5 ≤ sizeLine; decide), fun q hq => ?_⟩⟩⟩⟩⟩⟩⟩⟩⟩⟩⟩
      have hqp : p ≠ q := ne_of_none ht hq
      refine ⟨p, q, _, _, rfl, rfl, by rw [upd_ne hqp]; exact ht, upd_same, ?_, ⟨_, rfl⟩, fun b o e => ?_, ?_⟩
      · rw [List.length_map, List.length_cons, flat5, List.length_take]
        show _ + 5 ≤ sizeLine
        exact Nat.le_trans (show 5 * min i (pap m z).acts.length + 1 + 5 ≤ 3000 by omega) (by decide)
      · rw [upd_ne (ne_of_none e hpn), upd_ne (ne_of_none (sm b o e) hq)]
        exact sm b o e
      · rw [upd_same, flat_take hac, ← List.cons_append, List.map_append]
        rfl
    · rintro σ H' ⟨⟨v4, rfl⟩, sm, ht⟩
      rw [refs_len, List.take_length] at ht
      exact ⟨_, rfl, k p H' hpn sm ht⟩
theorem filt_succ (g : Int → Bool) (i : Nat) : ((List.range (i + 1)).map fun (j : Nat) => (j : Int)).filter g = (((List.range i).map fun (j : Nat) => (j : Int)).filter g) ++ if g i = true then [(i : Int)] else [] := by
  rw [List.range_succ, List.map_append, List.filter_append]
  congr 1
  cases h : g i <;> simp [h]
theorem filt_len (g : Int → Bool) (i : Nat) : (((List.range i).map fun (j : Nat) => (j : Int)).filter g).length ≤ i := by
  refine Nat.le_trans (List.length_filter_le _ _) ?_
  rw [List.length_map, List.length_range]
  exact Nat.le_refl _
theorem ok_tell_who (F : Fun K "tell_who" "tell_who" s_tell_who f fd) (T : Txt K mg C.P C.S C.A C.X C.O) (g_has : Cal P w K mg base 1 "has" p_has (sp_has K)) (g_with_count : Cal P w K mg base 1 "with_count" p_with_count sp_with_count)
    (g_may_act_for_themselves : Cal P w K mg base 4 "may_act_for_themselves" p_may_act_for_themselves (sp_themselves C)) : FnOk P w K mg base CX0 5 f fd p_tell_who (sp_who C) := by
  refine F.ok sc_tell_who (fun vs H Q E h => ?_) (fun cdv A outer s H vs Q E hr h => ?_)
  · obtain ⟨L, m, z, rfl, _⟩ := h
    rfl
  · obtain ⟨L, m, z, rfl, R, W, k⟩ := h
    refine ⟨_, (pss_cons (ps_if (pt_not (pt_val (pe_callC g_has (hr.mono (by decide)) rfl (pa_cons (pe_fld (pv 0) rfl) (pa_cons (pv 1) pa_nil))))) (pss_one (ps_ret (pe_lst (pa_cons (pe_cst rfl T.c_NOT_ONE_THAT_MAY_BE) pa_nil)))) pss_nil)
      (pss_cons (ps_set (i := 2) sc_tell_who.nd rfl (Or.inr rfl) (pe_ix ix_list (pe_fld (pv 0) rfl) (pv 1) (fun _ _ => rfl)))
      (pss_one (ps_ret (pe_callC g_with_count (hr.mono (by decide)) rfl (pa_cons (pe_lc (own := [("each", 3)]) rfl sc_tell_who.nd (pi_range1 (by rfl) T.b_range (pa_cons (pe_callB call_len_seq (by rfl) T.b_len PySem.boot_len (pa_cons (pe_fld (pv 0) rfl) pa_nil)) pa_nil)) (blkOk_by (N := ["office", "number", "paper", "each"]) (sc := defScope s_tell_who) (by decide +kernel)) (fun _ _ _ _ _ => (pg_name (i := 3) sc_tell_who.nd rfl (Or.inl rfl))) (fun _ _ _ _ _ => pts_one (pt_val (pe_callC g_may_act_for_themselves (hr.mono (by decide)) rfl (pa_cons (pv 0) (pa_cons (pv 3) (pa_cons (pv 2) pa_nil)))))) (fun _ _ _ _ _ => (pv 3))) pa_nil)))))), ?_⟩
    unfold mWho at k
    refine ⟨_, rfl, ⟨_, _, _, _, _, rfl, (R.off), T.k_Office, T.n_Office_papers, l_O_papers, ⟨_, rfl, ⟨_, _, _, _, rfl, SqL.of R.pal, refs_len _ _, ⟨_, rfl, ifNot (fun c => ?_) fun c => ?_⟩⟩⟩⟩⟩
    · rw [if_pos c] at k
      exact k.one
    rw [if_neg (by rw [c]; exact Bool.noConfusion)] at k
    have hx := has_pap c
    have hn := W.n
    refine ⟨_, rfl, ⟨_, _, _, _, _, rfl, (R.off), T.k_Office, T.n_Office_papers, l_O_papers, ⟨_, rfl, R.ixPap c ?_⟩⟩⟩
    refine ⟨_, rfl, ⟨_, _, _, _, _, rfl, (R.off), T.k_Office, T.n_Office_people, l_O_people, ⟨_, _, rfl, .inl (SqL.of R.ppl), _, rfl, by rw [refs_len]; omega, by rw [refs_len]; omega, fun D hD => lc_range (n := ((refs (fun i => L.ad (.per i)) m.people.length).length : Int).toNat)
      (fun i H' => H' D = some (.lst (((((List.range i).map fun (j : Nat) => (j : Int)).filter fun b => decide (refusal m b b (pap m z) = 0))).map V.int)) ∧ Same H H') ⟨upd_same, same_new hD⟩ ?_ ?_⟩⟩⟩
    · rintro i H' hi ⟨hDD, sm⟩
      rw [refs_len, Int.toNat_natCast] at hi
      have R2 := R.same sm
      refine ⟨rfl, _, rfl, _, rfl, _, rfl, L, m, z.toNat, pap m z, 0 + (i : Int), rfl, R2, W, hx, has_iff.mpr ⟨by omega, by omega⟩, fun H2 s2 => ⟨_, rfl, ?_⟩⟩
      rw [Int.zero_add]
      refine ifB (fun e => ?_) fun e => ?_
      · refine ⟨_, rfl, _, s2 _ _ hDD, ?_, ?_, fun b o q => ?_⟩
        · rw [List.length_map]
          exact Nat.lt_of_le_of_lt (filt_len _ i) (Nat.lt_of_lt_of_le hi (Nat.le_trans hn (by decide)))
        · rw [upd_same, filt_succ, if_pos e, List.map_append]
          rfl
        · rw [upd_ne (ne_of_none q hD)]
          exact s2 _ _ (sm b o q)
      · refine ⟨?_, sm.trans s2⟩
        rw [filt_succ, if_neg (by rw [e]; exact Bool.noConfusion), List.append_nil]
        exact s2 _ _ hDD
    · rintro H' ⟨hDD, sm⟩
      rw [refs_len, Int.toNat_natCast] at hDD
      exact ⟨D, whoOf m (pap m z), rfl, hDD, Nat.le_trans (filt_len _ _) (Nat.le_trans hn (by decide)), k.mono sm⟩
theorem ok_tell_waiting (F : Fun K "tell_waiting" "tell_waiting" s_tell_waiting f fd) (T : Txt K mg C.P C.S C.A C.X C.O) (g_has : Cal P w K mg base 1 "has" p_has (sp_has K)) (g_with_count : Cal P w K mg base 1 "with_count" p_with_count sp_with_count)
    (g_may_act_for_themselves : Cal P w K mg base 4 "may_act_for_themselves" p_may_act_for_themselves (sp_themselves C)) : FnOk P w K mg base CX0 5 f fd p_tell_waiting (sp_waiting C) := by
  refine F.ok sc_tell_waiting (fun vs H Q E h => ?_) (fun cdv A outer s H vs Q E hr h => ?_)
  · obtain ⟨L, m, z, rfl, _⟩ := h
    rfl
  · obtain ⟨L, m, z, rfl, R, W, k⟩ := h
    refine ⟨_, (pss_cons (ps_if (pt_not (pt_val (pe_callC g_has (hr.mono (by decide)) rfl (pa_cons (pe_fld (pv 0) rfl) (pa_cons (pv 1) pa_nil))))) (pss_one (ps_ret (pe_lst (pa_cons (pe_cst rfl T.c_NOT_ONE_THAT_MAY_BE) pa_nil)))) pss_nil)
      (pss_cons (ps_setLc (i := 2) (own := [("each", 3), ("paper", 4)]) rfl sc_tell_waiting.nd rfl rfl (sw_true rfl rfl rfl rfl) (pi_enum (by rfl) T.b_enumerate (pa_cons (pe_fld (pv 0) rfl) pa_nil)) (blkOk_by (N := ["office", "number", "waiting", "each", "paper"]) (sc := defScope s_tell_waiting) (by decide +kernel)) (fun _ _ _ _ _ => (pg_tupK (K := K) (n := 2) rfl rfl (pgs_cons (pg_name (i := 3) sc_tell_waiting.nd rfl (Or.inl rfl)) (pgs_cons (pg_name (i := 4) sc_tell_waiting.nd rfl (Or.inl rfl)) pgs_nil)))) (fun _ _ _ _ _ => pts_one (pt_val (pe_callC g_may_act_for_themselves (hr.mono (by decide)) rfl (pa_cons (pv 0) (pa_cons (pv 1) (pa_cons (pv 4) pa_nil)))))) (fun _ _ _ _ _ => (pv 3)))
      (pss_one (ps_ret (pe_callC g_with_count (hr.mono (by decide)) rfl (pa_cons (pv 2) pa_nil)))))), ?_⟩
    unfold mWaiting at k
    refine ⟨_, rfl, ⟨_, _, _, _, _, rfl, (R.off), T.k_Office, T.n_Office_people, l_O_people, ⟨_, rfl, ⟨_, _, _, _, rfl, SqL.of R.ppl, refs_len _ _, ⟨_, rfl, ifNot (fun c => ?_) fun c => ?_⟩⟩⟩⟩⟩
    · rw [if_pos c] at k
      exact k.one
    rw [if_neg (by rw [c]; exact Bool.noConfusion)] at k
    have hn := W.j
    refine ⟨_, rfl, ⟨_, _, _, _, _, rfl, (R.off), T.k_Office, T.n_Office_papers, l_O_papers, ⟨_, _, rfl, SqL.of R.pal, fun D hD => lc_enum (K := K) (xs := refs (fun i => L.ad (.pap i)) m.papers.length)
      (fun i H' => H' D = some (.lst (((((List.range i).map fun (j : Nat) => (j : Int)).filter fun b => decide (refusal m z z (pap m b) = 0))).map V.int)) ∧ Same H H') ⟨upd_same, same_new hD⟩ (fun i H' _ q => q.2.seq (SqL.of R.pal)) ?_ ?_⟩⟩⟩
    · rintro i v H' hi ⟨hDD, sm⟩ Tt hT
      obtain ⟨hlt, rfl⟩ := refs_get hi
      obtain ⟨x, hx⟩ := get_of_lt hlt
      have s2 : Same H' (upd H' Tt (.tup [.int (i : Nat), .ref (L.ad (.pap i))])) := same_new hT
      have ex : pap m (i : Nat) = x := by
        unfold pap
        rw [Int.toNat_natCast]
        exact getD_some hx
      refine ⟨Tt, _, rfl, SqT.of upd_same, rfl, _, _, rfl, _, _, rfl, rfl, rfl, _, rfl, _, rfl, _, rfl, L, m, i, x, z, rfl, (R.same sm).same s2, W, hx, c, fun H3 s3 => ⟨_, rfl, ifB (fun e => ?_) fun e => ?_⟩⟩
      · refine ⟨_, rfl, _, s3 _ _ (s2 _ _ hDD), ?_, ?_, fun b o q => ?_⟩
        · rw [List.length_map]
          exact Nat.lt_of_le_of_lt (filt_len _ i) (Nat.lt_of_lt_of_le hlt (Nat.le_trans hn (by decide)))
        · rw [upd_same, filt_succ, if_pos (by rw [ex]; exact e), List.map_append]
          rfl
        · rw [upd_ne (ne_of_none q hD)]
          exact s3 _ _ (s2 _ _ (sm b o q))
      · refine ⟨?_, (sm.trans s2).trans s3⟩
        rw [filt_succ, if_neg (by rw [ex, e]; exact Bool.noConfusion), List.append_nil]
        exact s3 _ _ (s2 _ _ hDD)
    · rintro H' ⟨hDD, sm⟩
      rw [refs_len] at hDD
      exact ⟨_, rfl, D, waitOf m z, rfl, hDD, Nat.le_trans (filt_len _ _) (Nat.le_trans hn (by decide)), k.mono sm⟩
end
/-! ### the desk -/
def actAns (m : Off) (c : Int) (x y z : Int) : Off × Int := if c = 6 then mSign m x y z else if c = 7 then mRefuse m x y z else (m, tryAct m x y z)
def orderAns (m : Off) (c : Int) (g : List Int) : Off × Int :=
  if c = 1 then mPerson m (g.getD 0 0) (g.getD 1 0)
  else if c = 2 then mRoles m (g.getD 0 0) (g.getD 1 0)
  else if c = 3 then mApart m (g.getD 0 0) (g.getD 1 0)
  else if c = 4 then mProcedure m g
  else if c = 5 then mFile m (g.getD 0 0) (g.getD 1 0)
  else if c = 9 then mWithdraw m (g.getD 0 0) (g.getD 1 0)
  else if c = 10 then mAway m (g.getD 0 0) (g.getD 1 0) (g.getD 2 0)
  else if c = 11 then mBack m (g.getD 0 0) (backTill m (g.getD 0 0))
  else mDays m (g.getD 0 0)
def askAns (m : Off) (c : Int) (z : Int) : List Int := if c = 13 then mTell m z else if c = 14 then mActs m z else if c = 15 then mWho m z else mWaiting m z
def sp_act (C : Cl) : Sp := fun vs H Q _ => ∃ (L : Lay) (m : Off) (c : Int) (a : Addr) (x y z : Int), vs = [.ref (L.ad .off), .int c, .ref a] ∧ Rep C L H m ∧ WOff m ∧ AB m 350 ∧ H a = some (.lst [.int x, .int y, .int z]) ∧ Wants C L H m Q (actAns m c x y z)
def sp_ask (C : Cl) : Sp := fun vs H Q _ => ∃ (L : Lay) (m : Off) (c z : Int), vs = [.ref (L.ad .off), .int c, .int z] ∧ Rep C L H m ∧ WOff m ∧ AB m 350 ∧ Told H Q (askAns m c z)
/-- how many numbers such a call has -/
def orderLen (c : Int) (n : Nat) : Prop := (c = 4) ∨ (n = 2 ∧ (c = 1 ∨ c = 2 ∨ c = 3 ∨ c = 5 ∨ c = 9)) ∨ (n = 3 ∧ c = 10) ∨ (n = 1 ∧ (c = 11 ∨ c = 12))
def sp_order (C : Cl) : Sp := fun vs H Q _ => ∃ (L : Lay) (m : Off) (c : Int) (a : Addr) (g : List Int), vs = [.ref (L.ad .off), .int c, .ref a] ∧ Rep C L H m ∧ WOff m ∧ AB m 350 ∧ m.apart.length ≤ 350 ∧ H a = some (.lst (g.map V.int)) ∧ orderLen c g.length ∧
  Wants C L H m Q (orderAns m c g)
def sp_answer (C : Cl) : Sp := fun vs H Q _ => ∃ (L : Lay) (m : Off) (c : Int) (a : Addr) (g : List Int), vs = [.ref (L.ad .off), .int c, .ref a] ∧ Rep C L H m ∧ WOff m ∧ AB m 350 ∧ m.apart.length ≤ 350 ∧ H a = some (.lst (g.map V.int)) ∧ (c = 4 ∨ argc c = some g.length) ∧
  ∀ L' H' p, Grows C L H m L' H' (mAns m c g).1 → H p = none → H' p = some (.lst ((mAns m c g).2.map V.int)) → Q (.ref p) H'
def sp_begin (K : PySem.W.Frag) : Sp := fun vs H Q _ => ∃ (a : Addr) (ns : List Int) (i : Nat) (c : Int), vs = [.ref a, .int (i : Int)] ∧ SqL K H a (ns.map V.int) ∧ ns[i]? = some c ∧ Q (.int ((if c = 4 then i + 2 else i + 1 : Nat) : Int)) H
def sp_end (K : PySem.W.Frag) : Sp := fun vs H Q _ => ∃ (a : Addr) (ns : List Int) (i : Nat) (c : Int) (g : List Int) (en : Nat), vs = [.ref a, .int (i : Int)] ∧ SqL K H a (ns.map V.int) ∧ Next ns i c g en ∧ Q (.int (en : Int)) H
def howMany : List (Int × Int) := [(1, 2), (2, 2), (3, 2), (5, 2), (6, 3), (7, 3), (8, 3), (9, 2), (10, 3), (11, 1), (12, 1), (13, 1), (14, 1), (15, 1), (16, 1)]
theorem how_many {p : Int} {n : Nat} (h : argc p = some n) : howMany.lookup p = some (n : Int) := by
  rcases argc_cases h with ⟨rfl, rfl⟩ | ⟨rfl, rfl⟩ | ⟨rfl, rfl⟩ | ⟨rfl, rfl⟩ | ⟨rfl, rfl⟩ | ⟨rfl, rfl⟩ | ⟨rfl, rfl⟩ | ⟨rfl, rfl⟩ | ⟨rfl, rfl⟩ | ⟨rfl, rfl⟩ | ⟨rfl, rfl⟩ | ⟨rfl, rfl⟩ | ⟨rfl, rfl⟩ | ⟨rfl, rfl⟩ | ⟨rfl, rfl⟩ <;> rfl
theorem argc_ne4 {p : Int} {n : Nat} (h : argc p = some n) : p ≠ 4 := fun e => by
  subst e
  cases h
section
variable {P : Program} {w : World} {K : PySem.W.Frag} {mg : Str → Option Value} {base : Heap} {C : Cl} {f : Addr} {fd : FuncData}
theorem ok_answer_of_act (F : Fun K "answer_of_act" "answer_of_act" s_answer_of_act f fd) (T : Txt K mg C.P C.S C.A C.X C.O) (g_sign_paper : Cal P w K mg base 5 "sign_paper" p_sign_paper (sp_sign C)) (g_refuse_paper : Cal P w K mg base 5 "refuse_paper" p_refuse_paper (sp_refuse C))
    (g_may_act : Cal P w K mg base 4 "may_act" p_may_act (sp_may_act C)) : FnOk P w K mg base CX0 6 f fd p_answer_of_act (sp_act C) := by
  refine F.ok sc_answer_of_act (fun vs H Q E h => ?_) (fun cdv A outer s H vs Q E hr h => ?_)
  · obtain ⟨L, m, c, a, x, y, z, rfl, _⟩ := h
    rfl
  · obtain ⟨L, m, c, a, x, y, z, rfl, R, W, hab, ha, k⟩ := h
    refine ⟨_, (pss_cons (ps_if (pt_cmpR op_eq (pv 1) (pe_cst rfl T.c_SIGN) (nomark _)) (pss_one (ps_ret (pe_callC g_sign_paper (hr.mono (by decide)) rfl (pa_cons (pv 0) (pa_cons (pe_ix ix_list (pv 2) pe_int (fun _ _ => rfl)) (pa_cons (pe_ix ix_list (pv 2) pe_int (fun _ _ => rfl)) (pa_cons (pe_ix ix_list (pv 2) pe_int (fun _ _ => rfl)) pa_nil))))))) pss_nil)
      (pss_cons (ps_if (pt_cmpR op_eq (pv 1) (pe_cst rfl T.c_REFUSE) (nomark _)) (pss_one (ps_ret (pe_callC g_refuse_paper (hr.mono (by decide)) rfl (pa_cons (pv 0) (pa_cons (pe_ix ix_list (pv 2) pe_int (fun _ _ => rfl)) (pa_cons (pe_ix ix_list (pv 2) pe_int (fun _ _ => rfl)) (pa_cons (pe_ix ix_list (pv 2) pe_int (fun _ _ => rfl)) pa_nil))))))) pss_nil)
      (pss_one (ps_ret (pe_callC g_may_act (hr.mono (by decide)) rfl (pa_cons (pv 0) (pa_cons (pe_ix ix_list (pv 2) pe_int (fun _ _ => rfl)) (pa_cons (pe_ix ix_list (pv 2) pe_int (fun _ _ => rfl)) (pa_cons (pe_ix ix_list (pv 2) pe_int (fun _ _ => rfl)) pa_nil))))))))), ?_⟩
    unfold actAns at k
    refine ⟨_, rfl, rfl, _, rfl, ifEq (fun c1 => ?_) fun c1 => ?_⟩
    · rw [if_pos c1] at k
      exact ⟨_, rfl, _, rfl, ⟨_, _, _, _, rfl, rfl, SqL.of ha, at_of (j := 0) rfl rfl, ⟨_, rfl, ⟨_, _, _, _, rfl, rfl, SqL.of ha, at_of (j := 1) rfl rfl, ⟨_, rfl, ⟨_, _, _, _, rfl, rfl, SqL.of ha, at_of (j := 2) rfl rfl, ⟨L, m, x, y, z, rfl, R, W, hab, k⟩⟩⟩⟩⟩⟩⟩
    rw [if_neg c1] at k
    refine ⟨_, rfl, rfl, _, rfl, ifEq (fun c2 => ?_) fun c2 => ?_⟩
    · rw [if_pos c2] at k
      exact ⟨_, rfl, _, rfl, ⟨_, _, _, _, rfl, rfl, SqL.of ha, at_of (j := 0) rfl rfl, ⟨_, rfl, ⟨_, _, _, _, rfl, rfl, SqL.of ha, at_of (j := 1) rfl rfl, ⟨_, rfl, ⟨_, _, _, _, rfl, rfl, SqL.of ha, at_of (j := 2) rfl rfl, ⟨L, m, x, y, z, rfl, R, W, hab, k⟩⟩⟩⟩⟩⟩⟩
    rw [if_neg c2] at k
    exact ⟨_, rfl, _, rfl, ⟨_, _, _, _, rfl, rfl, SqL.of ha, at_of (j := 0) rfl rfl, ⟨_, rfl, ⟨_, _, _, _, rfl, rfl, SqL.of ha, at_of (j := 1) rfl rfl, ⟨_, rfl, ⟨_, _, _, _, rfl, rfl, SqL.of ha, at_of (j := 2) rfl rfl, ⟨L, m, x, y, z, rfl, R, W, fun H' s' => k.no R rfl s'⟩⟩⟩⟩⟩⟩⟩
theorem ok_answer_of_question (F : Fun K "answer_of_question" "answer_of_question" s_answer_of_question f fd) (T : Txt K mg C.P C.S C.A C.X C.O) (g_tell_paper : Cal P w K mg base 2 "tell_paper" p_tell_paper (sp_tell C)) (g_tell_acts : Cal P w K mg base 2 "tell_acts" p_tell_acts (sp_acts C))
    (g_tell_who : Cal P w K mg base 5 "tell_who" p_tell_who (sp_who C)) (g_tell_waiting : Cal P w K mg base 5 "tell_waiting" p_tell_waiting (sp_waiting C)) : FnOk P w K mg base CX0 6 f fd p_answer_of_question (sp_ask C) := by
  refine F.ok sc_answer_of_question (fun vs H Q E h => ?_) (fun cdv A outer s H vs Q E hr h => ?_)
  · obtain ⟨L, m, c, z, rfl, _⟩ := h
    rfl
  · obtain ⟨L, m, c, z, rfl, R, W, hab, k⟩ := h
    refine ⟨_, (pss_cons (ps_if (pt_cmpR op_eq (pv 1) (pe_cst rfl T.c_TELL) (nomark _)) (pss_one (ps_ret (pe_callC g_tell_paper (hr.mono (by decide)) rfl (pa_cons (pv 0) (pa_cons (pv 2) pa_nil))))) pss_nil)
      (pss_cons (ps_if (pt_cmpR op_eq (pv 1) (pe_cst rfl T.c_ACTS) (nomark _)) (pss_one (ps_ret (pe_callC g_tell_acts (hr.mono (by decide)) rfl (pa_cons (pv 0) (pa_cons (pv 2) pa_nil))))) pss_nil)
      (pss_cons (ps_if (pt_cmpR op_eq (pv 1) (pe_cst rfl T.c_WHO) (nomark _)) (pss_one (ps_ret (pe_callC g_tell_who (hr.mono (by decide)) rfl (pa_cons (pv 0) (pa_cons (pv 2) pa_nil))))) pss_nil)
      (pss_one (ps_ret (pe_callC g_tell_waiting (hr.mono (by decide)) rfl (pa_cons (pv 0) (pa_cons (pv 2) pa_nil)))))))), ?_⟩
    unfold askAns at k
    refine ⟨_, rfl, rfl, _, rfl, ifEq (fun c1 => ?_) fun c1 => ?_⟩
    · rw [if_pos c1] at k
      exact ⟨_, rfl, _, rfl, L, m, z, rfl, R, k⟩
    rw [if_neg c1] at k
    refine ⟨_, rfl, rfl, _, rfl, ifEq (fun c2 => ?_) fun c2 => ?_⟩
    · rw [if_pos c2] at k
      exact ⟨_, rfl, _, rfl, L, m, z, rfl, R, hab, k⟩
    rw [if_neg c2] at k
    refine ⟨_, rfl, rfl, _, rfl, ifEq (fun c3 => ?_) fun c3 => ?_⟩
    · rw [if_pos c3] at k
      exact ⟨_, rfl, _, rfl, L, m, z, rfl, R, W, k⟩
    rw [if_neg c3] at k
    exact ⟨_, rfl, _, rfl, L, m, z, rfl, R, W, k⟩
theorem ok_answer_of_order (F : Fun K "answer_of_order" "answer_of_order" s_answer_of_order f fd) (T : Txt K mg C.P C.S C.A C.X C.O) (g_add_person : Cal P w K mg base 3 "add_person" p_add_person (sp_add_person C)) (g_give_roles : Cal P w K mg base 2 "give_roles" p_give_roles (sp_give_roles C))
    (g_keep_apart : Cal P w K mg base 2 "keep_apart" p_keep_apart (sp_keep_apart C)) (g_add_procedure : Cal P w K mg base 5 "add_procedure" p_add_procedure (sp_add_procedure C K)) (g_file_paper : Cal P w K mg base 4 "file_paper" p_file_paper (sp_file_paper C))
    (g_withdraw_paper : Cal P w K mg base 2 "withdraw_paper" p_withdraw_paper (sp_withdraw C)) (g_be_away : Cal P w K mg base 2 "be_away" p_be_away (sp_be_away C)) (g_be_back : Cal P w K mg base 2 "be_back" p_be_back (sp_be_back C))
    (g_pass_days : Cal P w K mg base 5 "pass_days" p_pass_days (sp_pass_days C)) : FnOk P w K mg base CX0 6 f fd p_answer_of_order (sp_order C) := by
  refine F.ok sc_answer_of_order (fun vs H Q E h => ?_) (fun cdv A outer s H vs Q E hr h => ?_)
  · obtain ⟨L, m, c, a, g, rfl, _⟩ := h
    rfl
  · obtain ⟨L, m, c, a, g, rfl, R, W, hab, hap, ha, hl, k⟩ := h
    refine ⟨_, (pss_cons (ps_if (pt_cmpR op_eq (pv 1) (pe_cst rfl T.c_PERSON) (nomark _)) (pss_one (ps_ret (pe_callC g_add_person (hr.mono (by decide)) rfl (pa_cons (pv 0) (pa_cons (pe_ix ix_list (pv 2) pe_int (fun _ _ => rfl)) (pa_cons (pe_ix ix_list (pv 2) pe_int (fun _ _ => rfl)) pa_nil)))))) pss_nil)
      (pss_cons (ps_if (pt_cmpR op_eq (pv 1) (pe_cst rfl T.c_ROLES) (nomark _)) (pss_one (ps_ret (pe_callC g_give_roles (hr.mono (by decide)) rfl (pa_cons (pv 0) (pa_cons (pe_ix ix_list (pv 2) pe_int (fun _ _ => rfl)) (pa_cons (pe_ix ix_list (pv 2) pe_int (fun _ _ => rfl)) pa_nil)))))) pss_nil)
      (pss_cons (ps_if (pt_cmpR op_eq (pv 1) (pe_cst rfl T.c_APART) (nomark _)) (pss_one (ps_ret (pe_callC g_keep_apart (hr.mono (by decide)) rfl (pa_cons (pv 0) (pa_cons (pe_ix ix_list (pv 2) pe_int (fun _ _ => rfl)) (pa_cons (pe_ix ix_list (pv 2) pe_int (fun _ _ => rfl)) pa_nil)))))) pss_nil)
      (pss_cons (ps_if (pt_cmpR op_eq (pv 1) (pe_cst rfl T.c_PROCEDURE) (nomark _)) (pss_one (ps_ret (pe_callC g_add_procedure (hr.mono (by decide)) rfl (pa_cons (pv 0) (pa_cons (pv 2) pa_nil))))) pss_nil)
      (pss_cons (ps_if (pt_cmpR op_eq (pv 1) (pe_cst rfl T.c_FILE) (nomark _)) (pss_one (ps_ret (pe_callC g_file_paper (hr.mono (by decide)) rfl (pa_cons (pv 0) (pa_cons (pe_ix ix_list (pv 2) pe_int (fun _ _ => rfl)) (pa_cons (pe_ix ix_list (pv 2) pe_int (fun _ _ => rfl)) pa_nil)))))) pss_nil)
      (pss_cons (ps_if (pt_cmpR op_eq (pv 1) (pe_cst rfl T.c_WITHDRAW) (nomark _)) (pss_one (ps_ret (pe_callC g_withdraw_paper (hr.mono (by decide)) rfl (pa_cons (pv 0) (pa_cons (pe_ix ix_list (pv 2) pe_int (fun _ _ => rfl)) (pa_cons (pe_ix ix_list (pv 2) pe_int (fun _ _ => rfl)) pa_nil)))))) pss_nil)
      (pss_cons (ps_if (pt_cmpR op_eq (pv 1) (pe_cst rfl T.c_AWAY) (nomark _)) (pss_one (ps_ret (pe_callC g_be_away (hr.mono (by decide)) rfl (pa_cons (pv 0) (pa_cons (pe_ix ix_list (pv 2) pe_int (fun _ _ => rfl)) (pa_cons (pe_ix ix_list (pv 2) pe_int (fun _ _ => rfl)) (pa_cons (pe_ix ix_list (pv 2) pe_int (fun _ _ => rfl)) pa_nil))))))) pss_nil)
      (pss_cons (ps_if (pt_cmpR op_eq (pv 1) (pe_cst rfl T.c_BACK) (nomark _)) (pss_one (ps_ret (pe_callC g_be_back (hr.mono (by decide)) rfl (pa_cons (pv 0) (pa_cons (pe_ix ix_list (pv 2) pe_int (fun _ _ => rfl)) pa_nil))))) pss_nil)
      (pss_one (ps_ret (pe_callC g_pass_days (hr.mono (by decide)) rfl (pa_cons (pv 0) (pa_cons (pe_ix ix_list (pv 2) pe_int (fun _ _ => rfl)) pa_nil))))))))))))), ?_⟩
    unfold orderLen at hl
    unfold orderAns at k
    refine ⟨_, rfl, rfl, _, rfl, ifEq (fun c1 => ?_) fun c1 => ?_⟩
    · rw [if_pos c1] at k
      exact ⟨_, rfl, _, rfl, ⟨_, _, _, _, rfl, rfl, SqL.of ha, at_of (j := 0) rfl (int_at (some_getD 0 (by omega))), ⟨_, rfl, ⟨_, _, _, _, rfl, rfl, SqL.of ha, at_of (j := 1) rfl (int_at (some_getD 0 (by omega))), ⟨L, m, _, _, rfl, R, W, k⟩⟩⟩⟩⟩
    rw [if_neg c1] at k
    refine ⟨_, rfl, rfl, _, rfl, ifEq (fun c2 => ?_) fun c2 => ?_⟩
    · rw [if_pos c2] at k
      exact ⟨_, rfl, _, rfl, ⟨_, _, _, _, rfl, rfl, SqL.of ha, at_of (j := 0) rfl (int_at (some_getD 0 (by omega))), ⟨_, rfl, ⟨_, _, _, _, rfl, rfl, SqL.of ha, at_of (j := 1) rfl (int_at (some_getD 0 (by omega))), ⟨L, m, _, _, rfl, R, k⟩⟩⟩⟩⟩
    rw [if_neg c2] at k
    refine ⟨_, rfl, rfl, _, rfl, ifEq (fun c3 => ?_) fun c3 => ?_⟩
    · rw [if_pos c3] at k
      exact ⟨_, rfl, _, rfl, ⟨_, _, _, _, rfl, rfl, SqL.of ha, at_of (j := 0) rfl (int_at (some_getD 0 (by omega))), ⟨_, rfl, ⟨_, _, _, _, rfl, rfl, SqL.of ha, at_of (j := 1) rfl (int_at (some_getD 0 (by omega))), ⟨L, m, _, _, rfl, R, hap, k⟩⟩⟩⟩⟩
    rw [if_neg c3] at k
    refine ⟨_, rfl, rfl, _, rfl, ifEq (fun c4 => ?_) fun c4 => ?_⟩
    · rw [if_pos c4] at k
      exact ⟨_, rfl, _, rfl, L, m, a, g, rfl, R, W, SqL.of ha, k⟩
    rw [if_neg c4] at k
    refine ⟨_, rfl, rfl, _, rfl, ifEq (fun c5 => ?_) fun c5 => ?_⟩
    · rw [if_pos c5] at k
      exact ⟨_, rfl, _, rfl, ⟨_, _, _, _, rfl, rfl, SqL.of ha, at_of (j := 0) rfl (int_at (some_getD 0 (by omega))), ⟨_, rfl, ⟨_, _, _, _, rfl, rfl, SqL.of ha, at_of (j := 1) rfl (int_at (some_getD 0 (by omega))), ⟨L, m, _, _, rfl, R, W, k⟩⟩⟩⟩⟩
    rw [if_neg c5] at k
    refine ⟨_, rfl, rfl, _, rfl, ifEq (fun c6 => ?_) fun c6 => ?_⟩
    · rw [if_pos c6] at k
      exact ⟨_, rfl, _, rfl, ⟨_, _, _, _, rfl, rfl, SqL.of ha, at_of (j := 0) rfl (int_at (some_getD 0 (by omega))), ⟨_, rfl, ⟨_, _, _, _, rfl, rfl, SqL.of ha, at_of (j := 1) rfl (int_at (some_getD 0 (by omega))), ⟨L, m, _, _, rfl, R, k⟩⟩⟩⟩⟩
    rw [if_neg c6] at k
    refine ⟨_, rfl, rfl, _, rfl, ifEq (fun c7 => ?_) fun c7 => ?_⟩
    · rw [if_pos c7] at k
      exact ⟨_, rfl, _, rfl, ⟨_, _, _, _, rfl, rfl, SqL.of ha, at_of (j := 0) rfl (int_at (some_getD 0 (by omega))), ⟨_, rfl, ⟨_, _, _, _, rfl, rfl, SqL.of ha, at_of (j := 1) rfl (int_at (some_getD 0 (by omega))), ⟨_, rfl, ⟨_, _, _, _, rfl, rfl, SqL.of ha, at_of (j := 2) rfl (int_at (some_getD 0 (by omega))), ⟨L, m, _, _, _, rfl, R, k⟩⟩⟩⟩⟩⟩⟩
    rw [if_neg c7] at k
    refine ⟨_, rfl, rfl, _, rfl, ifEq (fun c8 => ?_) fun c8 => ?_⟩
    · rw [if_pos c8] at k
      exact ⟨_, rfl, _, rfl, ⟨_, _, _, _, rfl, rfl, SqL.of ha, at_of (j := 0) rfl (int_at (some_getD 0 (by omega))), ⟨L, m, _, rfl, R, k⟩⟩⟩
    rw [if_neg c8] at k
    exact ⟨_, rfl, _, rfl, ⟨_, _, _, _, rfl, rfl, SqL.of ha, at_of (j := 0) rfl (int_at (some_getD 0 (by omega))), ⟨L, m, _, rfl, R, W, k⟩⟩⟩
theorem ifIn {z : Int} {l : List Int} {A B : Prop} (h1 : z ∈ l → A) (h2 : ¬ z ∈ l → B) : if (if (false : Bool) = true then !inV (.int z) (l.map V.int) else inV (.int z) (l.map V.int)) = true then A else B := by
  have e : (if (false : Bool) = true then !inV (.int z) (l.map V.int) else inV (.int z) (l.map V.int)) = decide (z ∈ l) := by
    rw [if_neg Bool.false_ne_true]
    unfold inV
    rw [List.any_map]
    by_cases h : z ∈ l
    · rw [decide_eq_true h]
      exact List.any_eq_true.mpr ⟨z, h, by show (z == z) = true; simp⟩
    · rw [decide_eq_false h, List.any_eq_false]
      intro y hy q
      have q' : (y == z) = true := q
      exact h (by rw [← beq_iff_eq.mp q']; exact hy)
  rw [e]
  exact ifP h1 h2
theorem ok_answer_of (F : Fun K "answer_of" "answer_of" s_answer_of f fd) (T : Txt K mg C.P C.S C.A C.X C.O) (g_answer_of_act : Cal P w K mg base 6 "answer_of_act" p_answer_of_act (sp_act C)) (g_answer_of_question : Cal P w K mg base 6 "answer_of_question" p_answer_of_question (sp_ask C))
    (g_answer_of_order : Cal P w K mg base 6 "answer_of_order" p_answer_of_order (sp_order C)) : FnOk P w K mg base CX0 7 f fd p_answer_of (sp_answer C) := by
  refine F.ok sc_answer_of (fun vs H Q E h => ?_) (fun cdv A outer s H vs Q E hr h => ?_)
  · obtain ⟨L, m, c, a, g, rfl, _⟩ := h
    rfl
  · obtain ⟨L, m, c, a, g, rfl, R, W, hab, hap, ha, hc, k⟩ := h
    refine ⟨_, (pss_cons (ps_if (pt_cmpR op_in_seq (pv 1) (pe_tup (pa_cons (pe_cst rfl T.c_SIGN) (pa_cons (pe_cst rfl T.c_REFUSE) (pa_cons (pe_cst rfl T.c_MAY) pa_nil)))) rfl) (pss_one (ps_ret (pe_lst (pa_cons (pe_callC g_answer_of_act (hr.mono (by decide)) rfl (pa_cons (pv 0) (pa_cons (pv 1) (pa_cons (pv 2) pa_nil)))) pa_nil)))) pss_nil)
      (pss_cons (ps_if (pt_cmpR op_in_seq (pv 1) (pe_tup (pa_cons (pe_cst rfl T.c_TELL) (pa_cons (pe_cst rfl T.c_ACTS) (pa_cons (pe_cst rfl T.c_WHO) (pa_cons (pe_cst rfl T.c_WAITING) pa_nil))))) rfl) (pss_one (ps_ret (pe_callC g_answer_of_question (hr.mono (by decide)) rfl (pa_cons (pv 0) (pa_cons (pv 1) (pa_cons (pe_ix ix_list (pv 2) pe_int (fun _ _ => rfl)) pa_nil)))))) pss_nil)
      (pss_one (ps_ret (pe_lst (pa_cons (pe_callC g_answer_of_order (hr.mono (by decide)) rfl (pa_cons (pv 0) (pa_cons (pv 1) (pa_cons (pv 2) pa_nil)))) pa_nil)))))), ?_⟩
    refine ⟨_, rfl, (by show 3 ≤ sizeLine; decide), fun t ht => ⟨t, _, rfl, .inr (SqT.of upd_same), rfl, rfl, _, rfl, ifIn (l := [6, 7, 8]) (fun c1 => ?_) fun c1 => ?_⟩⟩
    · have s1 : Same H (upd H t (.tup [.int 6, .int 7, .int 8])) := same_new ht
      have c1' : c = 6 ∨ c = 7 ∨ c = 8 := by simpa using c1
      have hl : g.length = 3 := by
        rcases hc with q | q
        · omega
        · rcases c1' with rfl | rfl | rfl <;> exact (Option.some.inj q).symm
      obtain ⟨x, y, z, rfl⟩ := len3 hl
      have em : mAns m c [x, y, z] = one (actAns m c x y z) := by
        unfold mAns actAns
        rcases c1' with rfl | rfl | rfl <;> rfl
      refine ⟨_, rfl, _, rfl, _, rfl, L, m, c, a, x, y, z, rfl, R.same s1, W, hab, s1 _ _ ha, fun L2 H2 G2 => ⟨(by show 1 ≤ sizeLine; decide), fun p hp => ?_⟩⟩
      rw [em] at k
      exact k L2 _ p ((Grows.ahead R s1 G2).more (same_new hp)) (s1.free (G2.dom p hp)) upd_same
    · have s1 : Same H (upd H t (.tup [.int 6, .int 7, .int 8])) := same_new ht
      have R1 := R.same s1
      refine ⟨_, rfl, (by show 4 ≤ sizeLine; decide), fun t2 ht2 => ⟨t2, _, rfl, .inr (SqT.of upd_same), rfl, rfl, _, rfl, ifIn (l := [13, 14, 15, 16]) (fun c2 => ?_) fun c2 => ?_⟩⟩
      · have s2 : Same H (upd (upd H t (.tup [.int 6, .int 7, .int 8])) t2 (.tup [.int 13, .int 14, .int 15, .int 16])) := s1.trans (same_new ht2)
        have c2' : c = 13 ∨ c = 14 ∨ c = 15 ∨ c = 16 := by simpa using c2
        have hl : g.length = 1 := by
          rcases hc with q | q
          · omega
          · rcases c2' with rfl | rfl | rfl | rfl <;> exact (Option.some.inj q).symm
        obtain ⟨x, rfl⟩ := len1 hl
        have em : mAns m c [x] = (m, askAns m c x) := by
          unfold mAns askAns
          rcases c2' with rfl | rfl | rfl | rfl <;> rfl
        refine ⟨_, rfl, _, rfl, _, rfl, rd_ix (SqL.of (s2 _ _ ha)) (j := 0) rfl rfl ⟨L, m, c, x, rfl, R.same s2, W, hab, fun p H3 hp s3 e3 => ?_⟩⟩
        rw [em] at k
        exact k L H3 p (Grows.refl R (s2.trans s3)) (s2.free hp) e3
      · have s2 : Same H (upd (upd H t (.tup [.int 6, .int 7, .int 8])) t2 (.tup [.int 13, .int 14, .int 15, .int 16])) := s1.trans (same_new ht2)
        have hl : orderLen c g.length ∧ mAns m c g = one (orderAns m c g) := by
          have n1 : ¬ (c = 6 ∨ c = 7 ∨ c = 8) := fun q => c1 (by simpa using q)
          have n2 : ¬ (c = 13 ∨ c = 14 ∨ c = 15 ∨ c = 16) := fun q => c2 (by simpa using q)
          rcases hc with rfl | q
          · exact ⟨.inl rfl, rfl⟩
          · have q2 := argc_cases q
            unfold orderLen mAns orderAns
            rcases q2 with ⟨rfl, e⟩ | ⟨rfl, e⟩ | ⟨rfl, e⟩ | ⟨rfl, e⟩ | ⟨rfl, e⟩ | ⟨rfl, e⟩ | ⟨rfl, e⟩ | ⟨rfl, e⟩ | ⟨rfl, e⟩ | ⟨rfl, e⟩ | ⟨rfl, e⟩ | ⟨rfl, e⟩ | ⟨rfl, e⟩ | ⟨rfl, e⟩ | ⟨rfl, e⟩ <;> first | exact ⟨by omega, rfl⟩ | omega
        refine ⟨_, rfl, _, rfl, _, rfl, L, m, c, a, g, rfl, R.same s2, W, hab, hap, s2 _ _ ha, hl.1, fun L2 H2 G2 => ⟨(by show 1 ≤ sizeLine; decide), fun p hp => ?_⟩⟩
        rw [hl.2] at k
        exact k L2 _ p ((Grows.ahead R s2 G2).more (same_new hp)) (s2.free (G2.dom p hp)) upd_same
theorem ok_begin_of_numbers (F : Fun K "begin_of_numbers" "begin_of_numbers" s_begin_of_numbers f fd) (T : Txt K mg C.P C.S C.A C.X C.O) : FnOk P w K mg base CX0 1 f fd p_begin_of_numbers (sp_begin K) := by
  refine F.ok sc_begin_of_numbers (fun vs H Q E h => ?_) (fun cdv A outer s H vs Q E hr h => ?_)
  · obtain ⟨a, ns, i, c, rfl, _⟩ := h
    rfl
  · obtain ⟨a, ns, i, c, rfl, hS, hc, k⟩ := h
    refine ⟨_, (pss_cons (ps_if (pt_cmpR op_eq (pe_ix ix_list (pv 0) (pv 1) (fun _ _ => rfl)) (pe_cst rfl T.c_PROCEDURE) (nomark _)) (pss_one (ps_ret (pe_op op_add (pv 1) pe_int))) pss_nil)
      (pss_one (ps_ret (pe_op op_add (pv 1) pe_int)))), ?_⟩
    refine ⟨_, rfl, _, rfl, rd_ix hS rfl (int_at hc) ⟨rfl, _, rfl, ifEq (fun e => ?_) fun e => ?_⟩⟩
    · rw [if_pos e] at k
      exact ⟨_, rfl, _, _, rfl, rfl, k⟩
    · rw [if_neg e] at k
      exact ⟨_, rfl, _, _, rfl, rfl, k⟩
theorem ok_end_of_numbers (F : Fun K "end_of_numbers" "end_of_numbers" s_end_of_numbers f fd) (T : Txt K mg C.P C.S C.A C.X C.O) {d : Addr} (m_HOW_MANY_NUMBERS : ModD P w K d howMany) (d_HOW_MANY_NUMBERS : mg "HOW_MANY_NUMBERS" = some (.ref d)) :
    FnOk P w K mg base CX0 1 f fd p_end_of_numbers (sp_end K) := by
  refine F.ok sc_end_of_numbers (fun vs H Q E h => ?_) (fun cdv A outer s H vs Q E hr h => ?_)
  · obtain ⟨a, ns, i, c, g, en, rfl, _⟩ := h
    rfl
  · obtain ⟨a, ns, i, c, g, en, rfl, hS, N, k⟩ := h
    refine ⟨_, (pss_cons (ps_if (pt_cmpR op_eq (pe_ix ix_list (pv 0) (pv 1) (fun _ _ => rfl)) (pe_cst rfl T.c_PROCEDURE) (nomark _)) (pss_one (ps_ret (pe_op op_add (pe_op op_add (pv 1) pe_int) (pe_ix ix_list (pv 0) (pe_op op_add (pv 1) pe_int) (fun _ _ => rfl))))) pss_nil)
      (pss_one (ps_ret (pe_op op_add (pe_op op_add (pv 1) pe_int) (pe_dgetM m_HOW_MANY_NUMBERS (pe_ix ix_list (pv 0) (pv 1) (fun _ _ => rfl)) (fun _ _ => rfl) rfl d_HOW_MANY_NUMBERS))))), ?_⟩
    refine ⟨_, rfl, _, rfl, rd_ix hS rfl (int_at N.pp) ⟨rfl, _, rfl, ifEq (fun e => ?_) fun e => ?_⟩⟩
    · rcases N.how with ⟨_, z, hz, z0, ez, _⟩ | ⟨q, _⟩
      · rw [ez] at k
        exact ⟨_, rfl, _, _, rfl, rfl, _, rfl, _, rfl, _, _, rfl, rfl, rd_ix hS (j := i + 1) rfl (int_at hz) ⟨_, _, rfl, rfl, k⟩⟩
      · exact absurd e (argc_ne4 q)
    · rcases N.how with ⟨q, _⟩ | ⟨q, ee, _⟩
      · exact absurd q e
      · have ez : (en : Int) = (i : Int) + 1 + (g.length : Int) := by omega
        rw [ez] at k
        exact ⟨_, rfl, _, _, rfl, rfl, _, rfl, _, rfl, rd_ix hS rfl (int_at N.pp) ⟨_, _, rfl, how_many q, _, _, rfl, rfl, k⟩⟩
end
end Po
namespace Po
open PySem L2
/-! ### a new office -/
def sp_Office (C : Cl) : Sp := fun vs H Q _ => ∃ (p dx : Addr), vs = [.ref p] ∧ H p = some (.ins C.O dx []) ∧
  ∀ (L : Lay) (H' : Hp), L.ad .off = p → Rep C L H' m0 → (∀ b o, H b = some o → b ≠ p → H' b = some o) → Q .non H'
section
variable {P : Program} {w : World} {K : PySem.W.Frag} {mg : Str → Option Value} {base : Heap} {C : Cl} {f : Addr} {fd : FuncData}
theorem ok_Office (F : Fun K "__init__" "Office.__init__" s_Office f fd) (T : Txt K mg C.P C.S C.A C.X C.O) : FnOk P w K mg base CX0 1 f fd p_Office (sp_Office C) := by
  refine F.ok sc_Office (fun vs H Q E h => ?_) (fun cdv A outer s H vs Q E hr h => ?_)
  · obtain ⟨p, dx, rfl, _⟩ := h
    rfl
  · obtain ⟨p, dx, rfl, hp, k⟩ := h
    refine ⟨_, (pss_cons (ps_fld (pv 0) pe_int rfl)
      (pss_cons (ps_fld (pv 0) (pe_lst pa_nil) rfl)
      (pss_cons (ps_fld (pv 0) pe_dnewT rfl)
      (pss_cons (ps_fld (pv 0) (pe_lst pa_nil) rfl)
      (pss_one (ps_fld (pv 0) (pe_lst pa_nil) rfl)))))), ?_⟩
    refine ⟨_, rfl, rd_set hp T.k_Office T.n_Office_today (by show 0 < 1000; decide) ?_⟩
    refine ⟨(by show 0 ≤ sizeLine; decide), fun l1 h1 => ?_⟩
    have n1 : l1 ≠ p := fun e => by rw [e, upd_same] at h1; cases h1
    refine ⟨_, rfl, rd_set (by rw [upd_ne n1.symm]; exact upd_same) T.k_Office T.n_Office_people (by show 1 < 1000; decide) ?_⟩
    intro d hd
    have n2 : d ≠ p := fun e => by rw [e, upd_same] at hd; cases hd
    have n3 : d ≠ l1 := fun e => by rw [e, upd_ne n1, upd_same] at hd; cases hd
    refine ⟨_, rfl, rd_set (by rw [upd_ne n2.symm]; exact upd_same) T.k_Office T.n_Office_kept_apart (by show 2 < 1000; decide) ?_⟩
    refine ⟨(by show 0 ≤ sizeLine; decide), fun l2 h2 => ?_⟩
    have n4 : l2 ≠ p := fun e => by rw [e, upd_same] at h2; cases h2
    have n5 : l2 ≠ d := fun e => by rw [e, upd_ne n2, upd_same] at h2; cases h2
    have n6 : l2 ≠ l1 := fun e => by rw [e, upd_ne n1, upd_ne n3.symm, upd_ne n1, upd_same] at h2; cases h2
    refine ⟨_, rfl, rd_set (by rw [upd_ne n4.symm]; exact upd_same) T.k_Office T.n_Office_procedures (by show 3 < 1000; decide) ?_⟩
    refine ⟨(by show 0 ≤ sizeLine; decide), fun l3 h3 => ?_⟩
    have n7 : l3 ≠ p := fun e => by rw [e, upd_same] at h3; cases h3
    have n8 : l3 ≠ l2 := fun e => by rw [e, upd_ne n4, upd_same] at h3; cases h3
    have n9 : l3 ≠ d := fun e => by rw [e, upd_ne n2, upd_ne n5.symm, upd_ne n2, upd_same] at h3; cases h3
    have n10 : l3 ≠ l1 := fun e => by rw [e, upd_ne n1, upd_ne n6.symm, upd_ne n1, upd_ne n3.symm, upd_ne n1, upd_same] at h3; cases h3
    refine ⟨_, rfl, rd_set (by rw [upd_ne n7.symm]; exact upd_same) T.k_Office T.n_Office_papers (by show 4 < 1000; decide) ?_⟩
    have q1 : H l1 = none := by rw [upd_ne n1] at h1; exact h1
    have q2 : H d = none := by rw [upd_ne n2, upd_ne n3, upd_ne n2] at hd; exact hd
    have q3 : H l2 = none := by rw [upd_ne n4, upd_ne n5, upd_ne n4, upd_ne n6, upd_ne n4] at h2; exact h2
    have q4 : H l3 = none := by rw [upd_ne n7, upd_ne n8, upd_ne n7, upd_ne n9, upd_ne n7, upd_ne n10, upd_ne n7] at h3; exact h3
    let L : Lay := ⟨fun c => match c with | .off => p | .ppl => l1 | .kd => d | .prl => l2 | .pal => l3 | _ => 0, fun _ => dx⟩
    refine k L _ rfl ⟨fun c o e => ?_, fun c e hc he q => ?_⟩ fun b o e hb => ?_
    · cases c with
      | off =>
        rw [← e]
        exact upd_same
      | ppl =>
        rw [← e]
        show upd _ _ _ l1 = _
        rw [upd_ne n1, upd_ne n10.symm, upd_ne n1, upd_ne n6.symm, upd_ne n1, upd_ne n3.symm, upd_ne n1, upd_same]
        rfl
      | kd =>
        rw [← e]
        show upd _ _ _ d = _
        rw [upd_ne n2, upd_ne n9.symm, upd_ne n2, upd_ne n5.symm, upd_ne n2, upd_same]
        rfl
      | prl =>
        rw [← e]
        show upd _ _ _ l2 = _
        rw [upd_ne n4, upd_ne n8.symm, upd_ne n4, upd_same]
        rfl
      | pal =>
        rw [← e]
        show upd _ _ _ l3 = _
        rw [upd_ne n7, upd_same]
        rfl
      | per i => exact absurd (obj_live e) (Nat.not_lt_zero _)
      | prc i => exact absurd (obj_live e) (Nat.not_lt_zero _)
      | pap i => exact absurd (obj_live e) (Nat.not_lt_zero _)
      | acl i => exact absurd (obj_live e) (Nat.not_lt_zero _)
      | stp i j =>
        obtain ⟨z, e2, _⟩ := obj_live e
        exact absurd (lt_of_get e2) (Nat.not_lt_zero _)
      | act i j =>
        obtain ⟨z, e2, _⟩ := obj_live e
        exact absurd (lt_of_get e2) (Nat.not_lt_zero _)
    · have five : ∀ c, live m0 c → c = .off ∨ c = .ppl ∨ c = .kd ∨ c = .prl ∨ c = .pal := fun c hc => by
        cases c with
        | off => exact .inl rfl
        | ppl => exact .inr (.inl rfl)
        | kd => exact .inr (.inr (.inl rfl))
        | prl => exact .inr (.inr (.inr (.inl rfl)))
        | pal => exact .inr (.inr (.inr (.inr rfl)))
        | per i => exact absurd hc (Nat.not_lt_zero _)
        | prc i => exact absurd hc (Nat.not_lt_zero _)
        | pap i => exact absurd hc (Nat.not_lt_zero _)
        | acl i => exact absurd hc (Nat.not_lt_zero _)
        | stp i j =>
          obtain ⟨z, e2, _⟩ := hc
          exact absurd (lt_of_get e2) (Nat.not_lt_zero _)
        | act i j =>
          obtain ⟨z, e2, _⟩ := hc
          exact absurd (lt_of_get e2) (Nat.not_lt_zero _)
      rcases five c hc with rfl | rfl | rfl | rfl | rfl <;> rcases five e he with rfl | rfl | rfl | rfl | rfl <;> first | rfl | exact absurd q n1 | exact absurd q n1.symm | exact absurd q n2 | exact absurd q n2.symm | exact absurd q n3 | exact absurd q n3.symm | exact absurd q n4 | exact absurd q n4.symm | exact absurd q n5 | exact absurd q n5.symm | exact absurd q n6 | exact absurd q n6.symm | exact absurd q n7 | exact absurd q n7.symm | exact absurd q n8 | exact absurd q n8.symm | exact absurd q n9 | exact absurd q n9.symm | exact absurd q n10 | exact absurd q n10.symm
    · rw [upd_ne hb, upd_ne (ne_of_none e q4), upd_ne hb, upd_ne (ne_of_none e q3), upd_ne hb, upd_ne (ne_of_none e q2), upd_ne hb, upd_ne (ne_of_none e q1), upd_ne hb]
      exact e
end
/-! ### what's handed in -/
def InputAt (K : PySem.W.Frag) (H : Hp) (a : Addr) (xs : List V) : Prop := (∃ o, H a = some (.frz o (.lst xs))) ∨
  ∃ (o : Obj) (its : Array Value) (n : Nat), K.lookup a = some o ∧ o.cls = .type "list" ∧ o.dict = none ∧ o.data = .seq its n ∧ its.size ≤ sizeLine ∧ Vals xs its.toList
section
variable {K : PySem.W.Frag} {C : Cl} {L : Lay} {H H' : Hp} {m : Off} {a : Addr} {xs : List V}
theorem InputAt.sq (h : InputAt K H a xs) : SqL K H a xs := h.elim (fun ⟨o, e⟩ => .inl (.inr ⟨o, e⟩)) .inr
theorem InputAt.keep (h : InputAt K H a xs) (k : ∀ o, H a = some (.frz o (.lst xs)) → H' a = some (.frz o (.lst xs))) : InputAt K H' a xs := h.imp (fun ⟨o, e⟩ => ⟨o, k o e⟩) id
theorem obj_frz {c : Cell} {o : Obj} {u : HO} (h : obj C L m c = some (.frz o u)) : False := by
  cases c with
  | off => cases h
  | ppl => cases h
  | kd => cases h
  | prl => cases h
  | pal => cases h
  | per i => obtain ⟨p, _, e⟩ := Option.map_eq_some_iff.mp (show (m.people[i]?).map _ = _ from h); cases e
  | prc i => obtain ⟨p, _, e⟩ := Option.map_eq_some_iff.mp (show (m.procs[i]?).map _ = _ from h); cases e
  | stp i j => obtain ⟨p, _, e⟩ := Option.map_eq_some_iff.mp (show ((m.procs[i]?).bind _).map _ = _ from h); cases e
  | pap i => obtain ⟨p, _, e⟩ := Option.map_eq_some_iff.mp (show (m.papers[i]?).map _ = _ from h); cases e
  | acl i => obtain ⟨p, _, e⟩ := Option.map_eq_some_iff.mp (show (m.papers[i]?).map _ = _ from h); cases e
  | act i j => obtain ⟨p, _, e⟩ := Option.map_eq_some_iff.mp (show ((m.papers[i]?).bind _).map _ = _ from h); cases e
theorem Rep.frz_out (R : Rep C L H m) {b : Addr} {o : Obj} {u : HO} (h : H b = some (.frz o u)) : Out L m b := fun c hc e => by
  obtain ⟨o2, e2⟩ := live_obj C L hc
  have h2 := R.at_ c o2 e2
  rw [← e, h] at h2
  rw [← Option.some.inj h2] at e2
  exact obj_frz e2
theorem Rep.updOut (R : Rep C L H m) {q : Addr} {o : HO} (h : Out L m q) : Rep C L (upd H q o) m := ⟨fun c u e => by rw [upd_ne fun z => h c (obj_live e) z.symm]; exact R.at_ c u e, R.inj⟩
end
theorem cut_mid {ns : List Int} {b e : Nat} (he : e ≤ ns.length) (hb : b ≤ e) : cutV (ns.map V.int) (some (b : Int)) (some (e : Int)) = ((ns.drop b).take (e - b)).map V.int := by
  unfold cutV
  rw [HT.sIx_nat, HT.sIx_nat, List.length_map, Nat.min_eq_left he, Nat.min_eq_left (Nat.le_trans hb he), ← List.map_drop, ← List.map_take]
theorem Next.cut {ns : List Int} {i : Nat} {p : Int} {g : List Int} {en : Nat} (N : Next ns i p g en) : cutV (ns.map V.int) (some ((if p = 4 then i + 2 else i + 1 : Nat) : Int)) (some (en : Int)) = g.map V.int := by
  have hle := N.le
  rcases N.how with ⟨h4, k, hk, k0, e, hg, hl⟩ | ⟨ha, e, hg⟩
  · rw [if_pos h4, cut_mid hle (by omega), hg]
    congr 2
    omega
  · rw [if_neg (argc_ne4 ha), cut_mid hle (by omega)]
    have e2 : en - (i + 1) = g.length := by omega
    rw [e2, ← hg]
def sp_answers (K : PySem.W.Frag) : Sp := fun vs H Q _ => ∃ (a : Addr) (ns : List Int), vs = [.ref a] ∧ InputAt K H a (ns.map V.int) ∧ PySg50.answers_asked ns = true ∧ ∀ p H', H' p = some (.lst ((PySg50.answers ns).map V.int)) → Q (.ref p) H'
section
variable {P : Program} {w : World} {K : PySem.W.Frag} {mg : Str → Option Value} {base : Heap} {C : Cl} {f : Addr} {fd : FuncData}
theorem ok_answers (F : Fun K "answers" "answers" s_answers f fd) (T : Txt K mg C.P C.S C.A C.X C.O) (g_Office : Mak P w K mg base 1 "Office" C.O p_Office (sp_Office C)) (g_end_of_numbers : Cal P w K mg base 1 "end_of_numbers" p_end_of_numbers (sp_end K))
    (g_begin_of_numbers : Cal P w K mg base 1 "begin_of_numbers" p_begin_of_numbers (sp_begin K)) (g_answer_of : Cal P w K mg base 7 "answer_of" p_answer_of (sp_answer C)) : FnOk P w K mg base CX0 8 f fd p_answers (sp_answers K) := by
  refine F.ok sc_answers (fun vs H Q E h => ?_) (fun cdv A outer s H vs Q E hr h => ?_)
  · obtain ⟨a, ns, rfl, _⟩ := h
    rfl
  · obtain ⟨a, ns, rfl, hin, hask, k⟩ := h
    refine ⟨_, (pss_cons (ps_set (i := 1) sc_answers.nd rfl (Or.inl rfl) (pe_makeC0 g_Office (hr.mono (by decide)) rfl))
      (pss_cons (ps_set (i := 2) sc_answers.nd rfl (Or.inl rfl) (pe_lst pa_nil))
      (pss_cons (ps_set (i := 3) sc_answers.nd rfl (Or.inl rfl) pe_int)
      (pss_cons (ps_while PassesOwn.never (pt_cmpR op_lt (pv 3) (pe_callB call_len_seq (by rfl) T.b_len PySem.boot_len (pa_cons (pv 0) pa_nil)) (nomark _)) (pss_cons (ps_set (i := 4) sc_answers.nd rfl (Or.inl rfl) (pe_callC g_end_of_numbers (hr.mono (by decide)) rfl (pa_cons (pv 0) (pa_cons (pv 3) pa_nil))))
      (pss_cons (ps_set (i := 5) sc_answers.nd rfl (Or.inl rfl) (pe_callC g_answer_of (hr.mono (by decide)) rfl (pa_cons (pv 1) (pa_cons (pe_ix ix_list (pv 0) (pv 3) (fun _ _ => rfl)) (pa_cons (pe_slice sl_list (pv 0) (po_some (pe_callC g_begin_of_numbers (hr.mono (by decide)) rfl (pa_cons (pv 0) (pa_cons (pv 3) pa_nil)))) (po_some (pv 4))) pa_nil)))))
      (pss_cons (ps_expr (pe_bm PySem.F.plainAttrs_list PySem.F.slot_list_append PySem.F.type_list_append mt_append (pv 2) (pa_cons (pe_callB call_len_seq (by rfl) T.b_len PySem.boot_len (pa_cons (pv 5) pa_nil)) pa_nil)))
      (pss_cons (ps_expr (pe_bm PySem.F.plainAttrs_list PySem.F.slot_list_extend PySem.F.type_list_extend mt_extend (pv 2) (pa_cons (pv 5) pa_nil)))
      (pss_one (ps_set (i := 3) sc_answers.nd rfl (Or.inl rfl) (pv 4))))))))
      (pss_one (ps_ret (pv 2))))))), ?_⟩
    intro x dx nx nd ne
    refine ⟨x, dx, rfl, upd_same, fun L H1 eo R1 hk => ⟨rfl, ?_⟩⟩
    have s1 : Same H H1 := Same.made nx nd hk
    refine ⟨(by show 0 ≤ sizeLine; decide), fun q hq => ?_⟩
    have s2 : Same H (upd H1 q (.lst [])) := s1.trans (same_new hq)
    refine ⟨fun mm σ H' => ∃ (L : Lay) (m : Off) (told : List Int) (n i : Nat) (e1 e2 : Option V), σ = [some (.ref a), some (.ref x), some (.ref q), some (.int (i : Int)), e1, e2] ∧ L.ad .off = x ∧ Rep C L H' m ∧ Mid ns i m told n ∧
      H' q = some (.lst (told.map V.int)) ∧ Out L m q ∧ InputAt K H' a (ns.map V.int) ∧ mm = ns.length - i,
      ⟨_, L, m0, [], 0, 0, none, none, rfl, eo, R1.same (same_new hq), Mid.start hask, upd_same, R1.none_out hq, hin.keep fun o e => s2 _ _ e, rfl⟩, ?_⟩
    rintro mm σ H2 ⟨L2, m, told, n, i, e1, e2, rfl, eo2, R2, M, hq2, oq, hin2, rfl⟩
    refine ⟨_, rfl, _, rfl, _, _, rfl, .inl hin2.sq, _, _, rfl, rfl, _, rfl, ifP (fun hlt => ?_) fun hge => ?_⟩
    · rw [List.length_map] at hlt
      obtain ⟨hn, p, g, en, N, M2⟩ := M.next (by omega)
      refine ⟨_, fun _ _ r => r, ?_⟩
      refine ⟨_, rfl, _, rfl, a, ns, i, p, g, en, rfl, hin2.sq, N, ?_⟩
      refine ⟨_, rfl, _, rfl, _, rfl, rd_ix hin2.sq rfl (int_at N.pp) ⟨_, rfl, _, rfl, _, rfl, a, ns, i, p, rfl, hin2.sq, N.pp, _, rfl, _, rfl, _, rfl, a, _, rfl, hin2.sq, fun gl hgl => ?_⟩⟩
      rw [N.cut]
      have s3 : Same H2 (upd H2 gl (.lst (g.map V.int))) := same_new hgl
      refine ⟨L2, m, p, gl, g, by rw [eo2]; rfl, R2.same s3, M.W, M.ab.mono M.few, Nat.le_trans M.ap M.few, upd_same, N.call, fun L4 H4 pa G4 hpa hans => ?_⟩
      obtain ⟨hq4, oq4⟩ := G4.out (s3 _ _ hq2) oq
      have nqp : q ≠ pa := ne_of_none (s3 _ _ hq2) hpa
      have htl := M.tl
      have hfew := M.few
      have hla := len_ans M.W M.ab M.few p g
      have hmul : n * 1801 ≤ 350 * 1801 := Nat.mul_le_mul_right _ hfew
      refine ⟨_, rfl, .inl ⟨rfl, _, SqL.of hq4⟩, _, rfl, _, _, rfl, .inl (SqL.of hans), q, _, _, rfl, rfl, hq4, ?_, ?_⟩
      · rw [List.length_map]
        exact Nat.lt_of_le_of_lt (Nat.le_trans htl hmul) (by decide)
      rw [List.length_map]
      refine ⟨_, rfl, .inl ⟨rfl, _, SqL.of upd_same⟩, _, rfl, q, pa, _, _, rfl, rfl, upd_same, by rw [upd_ne nqp.symm]; exact hans, ?_, ?_⟩
      · rw [List.length_append, List.length_map, List.length_map]
        show told.length + 1 + (mAns m p g).2.length ≤ sizeLine
        exact Nat.le_trans (show told.length + 1 + (mAns m p g).2.length ≤ 700000 by omega) (by decide)
      rw [upd_upd]
      refine ⟨_, rfl, ns.length - en, ?_, L4, (mAns m p g).1, told ++ (((mAns m p g).2.length : Int) :: (mAns m p g).2), n + 1, en, _, _, rfl, G4.off.trans eo2, G4.R.updOut oq4, M2, ?_, oq4, ?_, rfl⟩
      · have h1 := N.lt
        have h2 := N.le
        omega
      · rw [upd_same, List.map_append, List.map_cons, List.append_assoc]
        rfl
      · have hin3 : InputAt K (upd H2 gl (.lst (g.map V.int))) a (ns.map V.int) := hin2.keep fun o e => s3 _ _ e
        have hin4 : InputAt K H4 a (ns.map V.int) := hin3.keep fun o e => G4.kept _ _ e ((R2.same s3).frz_out e)
        exact hin4.keep fun o e => by rw [upd_ne (ne_of e hq4 fun z => nomatch z)]; exact e
    · rw [List.length_map] at hge
      have e := M.done (by omega)
      subst e
      exact ⟨_, rfl, k q H2 hq2⟩
end
end Po
set_option maxHeartbeats 0
namespace Po
open PySem L2
/-! ### the table of the top -/
def entOk : DictEntry → Int × Int → Bool
  | ⟨h, .int k _, .int v _⟩, (k', v') => k == k' && (v == v' && h == hashInt k')
  | _, _ => false
def dictOk : List DictEntry → List (Int × Int) → Bool
  | [], [] => true
  | e :: es, p :: ps => entOk e p && dictOk es ps
  | _, _ => false
theorem entOk_of {e : DictEntry} {p : Int × Int} (h : entOk e p = true) : ∃ t u, e = ⟨hashInt p.1, .int p.1 t, .int p.2 u⟩ := by
  obtain ⟨k', v'⟩ := p
  unfold entOk at h
  split at h
  · rename_i hh k t v u k2 v2 heq
    cases heq
    rw [Bool.and_eq_true, Bool.and_eq_true, beq_iff_eq, beq_iff_eq, beq_iff_eq] at h
    obtain ⟨rfl, rfl, rfl⟩ := h
    exact ⟨_, _, rfl⟩
  · cases h
theorem dict_of {P : Program} {w : World} : ∀ {es : List DictEntry} {ps : List (Int × Int)}, dictOk es ps = true →
    ∃ vs : List (Key × Value), Pairs (mixKind P w) es vs ∧ (∀ e ∈ es, ∃ k, (mixKind P w).is k e.key = true ∧ e.hash = (mixKind P w).hash k) ∧ vs.map (·.1) = ps.map (fun p => (Sum.inl p.1 : Key)) ∧ ∀ k v, ps.lookup k = some v → ∃ t, valueAt vs (Sum.inl k) = some (.int v t)
  | [], [], _ => ⟨[], .nil, fun _ h => (by cases h), rfl, fun _ _ h => (by cases h)⟩
  | e :: es, p :: ps, h => by
    have h' : (entOk e p && dictOk es ps) = true := h
    rw [Bool.and_eq_true] at h'
    obtain ⟨t, u, rfl⟩ := entOk_of h'.1
    obtain ⟨vs, h1, h2, h3, h4⟩ := dict_of (P := P) (w := w) h'.2
    refine ⟨(Sum.inl p.1, .int p.2 u) :: vs, .cons (mixKind_int P w p.1 t) rfl h1, fun e he => ?_, by rw [List.map_cons, List.map_cons, h3], fun k v hk => ?_⟩
    · rcases List.mem_cons.mp he with rfl | he
      · exact ⟨Sum.inl p.1, mixKind_int P w p.1 t, rfl⟩
      · exact h2 e he
    · obtain ⟨pk, pv⟩ := p
      rw [List.lookup_cons] at hk
      by_cases z : k = pk
      · subst z
        have hb : (k == k) = true := by simp
        rw [hb] at hk
        have := Option.some.inj hk
        subst this
        exact ⟨u, by simp [valueAt, List.find?_cons]⟩
      · have hb : (k == pk) = false := beq_eq_false_iff_ne.mpr z
        rw [hb] at hk
        obtain ⟨t2, e2⟩ := h4 k v hk
        refine ⟨t2, ?_⟩
        have hne : ¬ (Sum.inl pk : Key) = Sum.inl k := fun q => z (Sum.inl.inj q).symm
        unfold valueAt at e2 ⊢
        rw [List.find?_cons, decide_eq_false hne]
        exact e2
  | [], _ :: _, h => by cases h
  | _ :: _, [], h => by cases h
theorem modD_mk {P : Program} {w : World} {K : PySem.W.Frag} {d : Addr} {es : Array DictEntry} {ep : Nat} (l : K.lookup d = some ⟨.type "dict", none, .dict es ep, #[]⟩) (h : dictOk es.toList howMany = true) : ModD P w K d howMany := fun hp X => by
  obtain ⟨vs, h1, h2, h3, h4⟩ := dict_of (P := P) (w := w) h
  refine ⟨vs, ⟨_, es, ep, X _ _ l, ⟨rfl, rfl, rfl⟩, rfl, fun e he => h2 e (by simpa using he), h1, ?_⟩, h4⟩
  rw [h3]
  decide
theorem cst_mk {K : PySem.W.Frag} {h : Heap} {mg : Str → Option Value} {x : Str} {z : Int} {t : Tok} (X : K.In h) (G : h.Ns mainGlobals mg) (e : PySem.W.nsIn K mainGlobals x = some (some (.int z t))) : Cst mg x z := ⟨t, PySem.W.mg_of X G e⟩
/-- a def of the text stands under its name -/
structure Def (K : PySem.W.Frag) (x : Str) (st : Stmt) : Prop where
  ex : ∃ (f : Addr) (fd : FuncData), PySem.W.nsIn K mainGlobals x = some (some (.ref f)) ∧ Fun K x x st f fd
theorem def_mk {K : PySem.W.Frag} {x : Str} {st : Stmt} {f : Addr} {oc : Value} {od an : Option Addr} {osl : Array (Option Value)} {kV doc pm cdv ct : Value} (a : PySem.W.nsIn K mainGlobals x = some (some (.ref f)))
    (l : K.lookup f = some ⟨oc, od, .func (PySem.W.fnOf x x (defArgs st) (defBody st) (defScope st) .none kV doc pm an cdv ct), osl⟩) (c : PySem.W.codeIn K cdv x = true) (k : PySem.W.keepIn K (.ref f) = true) : Def K x st := ⟨⟨f, _, a, fun_mk l c k⟩⟩
theorem all_of {P : Program} {w : World} {K : PySem.W.Frag} {h : Heap} {mg : Str → Option Value} {fa : Addr} (X : K.In h) (G : h.Ns mainGlobals mg) (hfa : mg "answers" = some (.ref fa)) {C : Cl} (T : Txt K mg C.P C.S C.A C.X C.O)
    {f_Person : Addr} {fd_Person : FuncData} (a_Person : PySem.W.nsIn K mainGlobals "Person" = some (some (.ref C.P))) (M_Person : Mk K C.P f_Person) (F_Person : Fun K "__init__" "Person.__init__" s_Person f_Person fd_Person)
    {f_Step : Addr} {fd_Step : FuncData} (a_Step : PySem.W.nsIn K mainGlobals "Step" = some (some (.ref C.S))) (M_Step : Mk K C.S f_Step) (F_Step : Fun K "__init__" "Step.__init__" s_Step f_Step fd_Step)
    {f_Act : Addr} {fd_Act : FuncData} (a_Act : PySem.W.nsIn K mainGlobals "Act" = some (some (.ref C.A))) (M_Act : Mk K C.A f_Act) (F_Act : Fun K "__init__" "Act.__init__" s_Act f_Act fd_Act)
    {f_Paper : Addr} {fd_Paper : FuncData} (a_Paper : PySem.W.nsIn K mainGlobals "Paper" = some (some (.ref C.X))) (M_Paper : Mk K C.X f_Paper) (F_Paper : Fun K "__init__" "Paper.__init__" s_Paper f_Paper fd_Paper)
    {f_Office : Addr} {fd_Office : FuncData} (a_Office : PySem.W.nsIn K mainGlobals "Office" = some (some (.ref C.O))) (M_Office : Mk K C.O f_Office) (F_Office : Fun K "__init__" "Office.__init__" s_Office f_Office fd_Office)
    (D_end_of_numbers : Def K "end_of_numbers" s_end_of_numbers)
    (D_begin_of_numbers : Def K "begin_of_numbers" s_begin_of_numbers)
    (D_has : Def K "has" s_has)
    (D_current_step : Def K "current_step" s_current_step)
    (D_stands_for : Def K "stands_for" s_stands_for)
    (D_holds : Def K "holds" s_holds)
    (D_is_within_levels_above : Def K "is_within_levels_above" s_is_within_levels_above)
    (D_is_entitled : Def K "is_entitled" s_is_entitled)
    (D_has_part_in : Def K "has_part_in" s_has_part_in)
    (D_acted_in_this_round : Def K "acted_in_this_round" s_acted_in_this_round)
    (D_acted_in_a_role_kept_apart : Def K "acted_in_a_role_kept_apart" s_acted_in_a_role_kept_apart)
    (D_refusal_to_act : Def K "refusal_to_act" s_refusal_to_act)
    (D_may_act : Def K "may_act" s_may_act)
    (D_note_act : Def K "note_act" s_note_act)
    (D_signatures_in_this_round : Def K "signatures_in_this_round" s_signatures_in_this_round)
    (D_due_from_today : Def K "due_from_today" s_due_from_today)
    (D_come_to : Def K "come_to" s_come_to)
    (D_go_on : Def K "go_on" s_go_on)
    (D_sign_paper : Def K "sign_paper" s_sign_paper)
    (D_go_back : Def K "go_back" s_go_back)
    (D_refuse_paper : Def K "refuse_paper" s_refuse_paper)
    (D_answer_of_act : Def K "answer_of_act" s_answer_of_act)
    (D_tell_paper : Def K "tell_paper" s_tell_paper)
    (D_tell_acts : Def K "tell_acts" s_tell_acts)
    (D_with_count : Def K "with_count" s_with_count)
    (D_may_act_for_themselves : Def K "may_act_for_themselves" s_may_act_for_themselves)
    (D_tell_who : Def K "tell_who" s_tell_who)
    (D_tell_waiting : Def K "tell_waiting" s_tell_waiting)
    (D_answer_of_question : Def K "answer_of_question" s_answer_of_question)
    (D_are_roles : Def K "are_roles" s_are_roles)
    (D_may_be_chief : Def K "may_be_chief" s_may_be_chief)
    (D_add_person : Def K "add_person" s_add_person)
    (D_give_roles : Def K "give_roles" s_give_roles)
    (D_is_role : Def K "is_role" s_is_role)
    (D_keep_apart : Def K "keep_apart" s_keep_apart)
    (D_is_length_of_steps : Def K "is_length_of_steps" s_is_length_of_steps)
    (D_step_at : Def K "step_at" s_step_at)
    (D_steps_of : Def K "steps_of" s_steps_of)
    (D_may_be_step : Def K "may_be_step" s_may_be_step)
    (D_add_procedure : Def K "add_procedure" s_add_procedure)
    (D_file_paper : Def K "file_paper" s_file_paper)
    (D_withdraw_paper : Def K "withdraw_paper" s_withdraw_paper)
    (D_may_be_last_day : Def K "may_be_last_day" s_may_be_last_day)
    (D_be_away : Def K "be_away" s_be_away)
    (D_be_back : Def K "be_back" s_be_back)
    (D_is_late : Def K "is_late" s_is_late)
    (D_rise_or_lapse : Def K "rise_or_lapse" s_rise_or_lapse)
    (D_pass_one_day : Def K "pass_one_day" s_pass_one_day)
    (D_pass_days : Def K "pass_days" s_pass_days)
    (D_answer_of_order : Def K "answer_of_order" s_answer_of_order)
    (D_answer_of : Def K "answer_of" s_answer_of)
    (D_answers : Def K "answers" s_answers)
    {e_HOW_MANY_NUMBERS : Addr} (m_HOW_MANY_NUMBERS : ModD P w K e_HOW_MANY_NUMBERS howMany) (n_HOW_MANY_NUMBERS : PySem.W.nsIn K mainGlobals "HOW_MANY_NUMBERS" = some (some (.ref e_HOW_MANY_NUMBERS)))
    : ∃ fd : FuncData, (∀ (s : Shared) (v : Value), BindsTo s fd ⟨[v], []⟩ [("calls", v)]) ∧ ∀ base : Heap, FnOk P w K mg base CX0 8 fa fd ["calls"] (sp_answers K) := by
  have d_HOW_MANY_NUMBERS := PySem.W.mg_of X G n_HOW_MANY_NUMBERS
  obtain ⟨f_end_of_numbers, fd_end_of_numbers, a_end_of_numbers, F_end_of_numbers⟩ := D_end_of_numbers.ex
  obtain ⟨f_begin_of_numbers, fd_begin_of_numbers, a_begin_of_numbers, F_begin_of_numbers⟩ := D_begin_of_numbers.ex
  obtain ⟨f_has, fd_has, a_has, F_has⟩ := D_has.ex
  obtain ⟨f_current_step, fd_current_step, a_current_step, F_current_step⟩ := D_current_step.ex
  obtain ⟨f_stands_for, fd_stands_for, a_stands_for, F_stands_for⟩ := D_stands_for.ex
  obtain ⟨f_holds, fd_holds, a_holds, F_holds⟩ := D_holds.ex
  obtain ⟨f_is_within_levels_above, fd_is_within_levels_above, a_is_within_levels_above, F_is_within_levels_above⟩ := D_is_within_levels_above.ex
  obtain ⟨f_is_entitled, fd_is_entitled, a_is_entitled, F_is_entitled⟩ := D_is_entitled.ex
  obtain ⟨f_has_part_in, fd_has_part_in, a_has_part_in, F_has_part_in⟩ := D_has_part_in.ex
  obtain ⟨f_acted_in_this_round, fd_acted_in_this_round, a_acted_in_this_round, F_acted_in_this_round⟩ := D_acted_in_this_round.ex
  obtain ⟨f_acted_in_a_role_kept_apart, fd_acted_in_a_role_kept_apart, a_acted_in_a_role_kept_apart, F_acted_in_a_role_kept_apart⟩ := D_acted_in_a_role_kept_apart.ex
  obtain ⟨f_refusal_to_act, fd_refusal_to_act, a_refusal_to_act, F_refusal_to_act⟩ := D_refusal_to_act.ex
  obtain ⟨f_may_act, fd_may_act, a_may_act, F_may_act⟩ := D_may_act.ex
  obtain ⟨f_note_act, fd_note_act, a_note_act, F_note_act⟩ := D_note_act.ex
  obtain ⟨f_signatures_in_this_round, fd_signatures_in_this_round, a_signatures_in_this_round, F_signatures_in_this_round⟩ := D_signatures_in_this_round.ex
  obtain ⟨f_due_from_today, fd_due_from_today, a_due_from_today, F_due_from_today⟩ := D_due_from_today.ex
  obtain ⟨f_come_to, fd_come_to, a_come_to, F_come_to⟩ := D_come_to.ex
  obtain ⟨f_go_on, fd_go_on, a_go_on, F_go_on⟩ := D_go_on.ex
  obtain ⟨f_sign_paper, fd_sign_paper, a_sign_paper, F_sign_paper⟩ := D_sign_paper.ex
  obtain ⟨f_go_back, fd_go_back, a_go_back, F_go_back⟩ := D_go_back.ex
  obtain ⟨f_refuse_paper, fd_refuse_paper, a_refuse_paper, F_refuse_paper⟩ := D_refuse_paper.ex
  obtain ⟨f_answer_of_act, fd_answer_of_act, a_answer_of_act, F_answer_of_act⟩ := D_answer_of_act.ex
  obtain ⟨f_tell_paper, fd_tell_paper, a_tell_paper, F_tell_paper⟩ := D_tell_paper.ex
  obtain ⟨f_tell_acts, fd_tell_acts, a_tell_acts, F_tell_acts⟩ := D_tell_acts.ex
  obtain ⟨f_with_count, fd_with_count, a_with_count, F_with_count⟩ := D_with_count.ex
  obtain ⟨f_may_act_for_themselves, fd_may_act_for_themselves, a_may_act_for_themselves, F_may_act_for_themselves⟩ := D_may_act_for_themselves.ex
  obtain ⟨f_tell_who, fd_tell_who, a_tell_who, F_tell_who⟩ := D_tell_who.ex
  obtain ⟨f_tell_waiting, fd_tell_waiting, a_tell_waiting, F_tell_waiting⟩ := D_tell_waiting.ex
  obtain ⟨f_answer_of_question, fd_answer_of_question, a_answer_of_question, F_answer_of_question⟩ := D_answer_of_question.ex
  obtain ⟨f_are_roles, fd_are_roles, a_are_roles, F_are_roles⟩ := D_are_roles.ex
  obtain ⟨f_may_be_chief, fd_may_be_chief, a_may_be_chief, F_may_be_chief⟩ := D_may_be_chief.ex
  obtain ⟨f_add_person, fd_add_person, a_add_person, F_add_person⟩ := D_add_person.ex
  obtain ⟨f_give_roles, fd_give_roles, a_give_roles, F_give_roles⟩ := D_give_roles.ex
  obtain ⟨f_is_role, fd_is_role, a_is_role, F_is_role⟩ := D_is_role.ex
  obtain ⟨f_keep_apart, fd_keep_apart, a_keep_apart, F_keep_apart⟩ := D_keep_apart.ex
  obtain ⟨f_is_length_of_steps, fd_is_length_of_steps, a_is_length_of_steps, F_is_length_of_steps⟩ := D_is_length_of_steps.ex
  obtain ⟨f_step_at, fd_step_at, a_step_at, F_step_at⟩ := D_step_at.ex
  obtain ⟨f_steps_of, fd_steps_of, a_steps_of, F_steps_of⟩ := D_steps_of.ex
  obtain ⟨f_may_be_step, fd_may_be_step, a_may_be_step, F_may_be_step⟩ := D_may_be_step.ex
  obtain ⟨f_add_procedure, fd_add_procedure, a_add_procedure, F_add_procedure⟩ := D_add_procedure.ex
  obtain ⟨f_file_paper, fd_file_paper, a_file_paper, F_file_paper⟩ := D_file_paper.ex
  obtain ⟨f_withdraw_paper, fd_withdraw_paper, a_withdraw_paper, F_withdraw_paper⟩ := D_withdraw_paper.ex
  obtain ⟨f_may_be_last_day, fd_may_be_last_day, a_may_be_last_day, F_may_be_last_day⟩ := D_may_be_last_day.ex
  obtain ⟨f_be_away, fd_be_away, a_be_away, F_be_away⟩ := D_be_away.ex
  obtain ⟨f_be_back, fd_be_back, a_be_back, F_be_back⟩ := D_be_back.ex
  obtain ⟨f_is_late, fd_is_late, a_is_late, F_is_late⟩ := D_is_late.ex
  obtain ⟨f_rise_or_lapse, fd_rise_or_lapse, a_rise_or_lapse, F_rise_or_lapse⟩ := D_rise_or_lapse.ex
  obtain ⟨f_pass_one_day, fd_pass_one_day, a_pass_one_day, F_pass_one_day⟩ := D_pass_one_day.ex
  obtain ⟨f_pass_days, fd_pass_days, a_pass_days, F_pass_days⟩ := D_pass_days.ex
  obtain ⟨f_answer_of_order, fd_answer_of_order, a_answer_of_order, F_answer_of_order⟩ := D_answer_of_order.ex
  obtain ⟨f_answer_of, fd_answer_of, a_answer_of, F_answer_of⟩ := D_answer_of.ex
  obtain ⟨f_answers, fd_answers, a_answers, F_answers⟩ := D_answers.ex
  have b_Person := F_Person.binds (ps := p_Person) fun _ _ _ _ _ _ us hl => match us, hl with | [_, _, _], _ => rfl
  have b_Step := F_Step.binds (ps := p_Step) fun _ _ _ _ _ _ us hl => match us, hl with | [_, _, _, _, _, _], _ => rfl
  have b_Act := F_Act.binds (ps := p_Act) fun _ _ _ _ _ _ us hl => match us, hl with | [_, _, _, _, _, _], _ => rfl
  have b_Paper := F_Paper.binds (ps := p_Paper) fun _ _ _ _ _ _ us hl => match us, hl with | [_, _, _], _ => rfl
  have b_Office := F_Office.binds (ps := p_Office) fun _ _ _ _ _ _ us hl => match us, hl with | [_], _ => rfl
  have b_end_of_numbers := F_end_of_numbers.binds (ps := p_end_of_numbers) fun _ _ _ _ _ _ us hl => match us, hl with | [_, _], _ => rfl
  have b_begin_of_numbers := F_begin_of_numbers.binds (ps := p_begin_of_numbers) fun _ _ _ _ _ _ us hl => match us, hl with | [_, _], _ => rfl
  have b_has := F_has.binds (ps := p_has) fun _ _ _ _ _ _ us hl => match us, hl with | [_, _], _ => rfl
  have b_current_step := F_current_step.binds (ps := p_current_step) fun _ _ _ _ _ _ us hl => match us, hl with | [_, _], _ => rfl
  have b_stands_for := F_stands_for.binds (ps := p_stands_for) fun _ _ _ _ _ _ us hl => match us, hl with | [_, _, _], _ => rfl
  have b_holds := F_holds.binds (ps := p_holds) fun _ _ _ _ _ _ us hl => match us, hl with | [_, _], _ => rfl
  have b_is_within_levels_above := F_is_within_levels_above.binds (ps := p_is_within_levels_above) fun _ _ _ _ _ _ us hl => match us, hl with | [_, _, _, _], _ => rfl
  have b_is_entitled := F_is_entitled.binds (ps := p_is_entitled) fun _ _ _ _ _ _ us hl => match us, hl with | [_, _, _, _], _ => rfl
  have b_has_part_in := F_has_part_in.binds (ps := p_has_part_in) fun _ _ _ _ _ _ us hl => match us, hl with | [_, _, _], _ => rfl
  have b_acted_in_this_round := F_acted_in_this_round.binds (ps := p_acted_in_this_round) fun _ _ _ _ _ _ us hl => match us, hl with | [_, _, _], _ => rfl
  have b_acted_in_a_role_kept_apart := F_acted_in_a_role_kept_apart.binds (ps := p_acted_in_a_role_kept_apart) fun _ _ _ _ _ _ us hl => match us, hl with | [_, _, _, _], _ => rfl
  have b_refusal_to_act := F_refusal_to_act.binds (ps := p_refusal_to_act) fun _ _ _ _ _ _ us hl => match us, hl with | [_, _, _, _], _ => rfl
  have b_may_act := F_may_act.binds (ps := p_may_act) fun _ _ _ _ _ _ us hl => match us, hl with | [_, _, _, _], _ => rfl
  have b_note_act := F_note_act.binds (ps := p_note_act) fun _ _ _ _ _ _ us hl => match us, hl with | [_, _, _, _], _ => rfl
  have b_signatures_in_this_round := F_signatures_in_this_round.binds (ps := p_signatures_in_this_round) fun _ _ _ _ _ _ us hl => match us, hl with | [_], _ => rfl
  have b_due_from_today := F_due_from_today.binds (ps := p_due_from_today) fun _ _ _ _ _ _ us hl => match us, hl with | [_, _], _ => rfl
  have b_come_to := F_come_to.binds (ps := p_come_to) fun _ _ _ _ _ _ us hl => match us, hl with | [_, _, _], _ => rfl
  have b_go_on := F_go_on.binds (ps := p_go_on) fun _ _ _ _ _ _ us hl => match us, hl with | [_, _], _ => rfl
  have b_sign_paper := F_sign_paper.binds (ps := p_sign_paper) fun _ _ _ _ _ _ us hl => match us, hl with | [_, _, _, _], _ => rfl
  have b_go_back := F_go_back.binds (ps := p_go_back) fun _ _ _ _ _ _ us hl => match us, hl with | [_, _], _ => rfl
  have b_refuse_paper := F_refuse_paper.binds (ps := p_refuse_paper) fun _ _ _ _ _ _ us hl => match us, hl with | [_, _, _, _], _ => rfl
  have b_answer_of_act := F_answer_of_act.binds (ps := p_answer_of_act) fun _ _ _ _ _ _ us hl => match us, hl with | [_, _, _], _ => rfl
  have b_tell_paper := F_tell_paper.binds (ps := p_tell_paper) fun _ _ _ _ _ _ us hl => match us, hl with | [_, _], _ => rfl
  have b_tell_acts := F_tell_acts.binds (ps := p_tell_acts) fun _ _ _ _ _ _ us hl => match us, hl with | [_, _], _ => rfl
  have b_with_count := F_with_count.binds (ps := p_with_count) fun _ _ _ _ _ _ us hl => match us, hl with | [_], _ => rfl
  have b_may_act_for_themselves := F_may_act_for_themselves.binds (ps := p_may_act_for_themselves) fun _ _ _ _ _ _ us hl => match us, hl with | [_, _, _], _ => rfl
  have b_tell_who := F_tell_who.binds (ps := p_tell_who) fun _ _ _ _ _ _ us hl => match us, hl with | [_, _], _ => rfl
  have b_tell_waiting := F_tell_waiting.binds (ps := p_tell_waiting) fun _ _ _ _ _ _ us hl => match us, hl with | [_, _], _ => rfl
  have b_answer_of_question := F_answer_of_question.binds (ps := p_answer_of_question) fun _ _ _ _ _ _ us hl => match us, hl with | [_, _, _], _ => rfl
  have b_are_roles := F_are_roles.binds (ps := p_are_roles) fun _ _ _ _ _ _ us hl => match us, hl with | [_], _ => rfl
  have b_may_be_chief := F_may_be_chief.binds (ps := p_may_be_chief) fun _ _ _ _ _ _ us hl => match us, hl with | [_, _], _ => rfl
  have b_add_person := F_add_person.binds (ps := p_add_person) fun _ _ _ _ _ _ us hl => match us, hl with | [_, _, _], _ => rfl
  have b_give_roles := F_give_roles.binds (ps := p_give_roles) fun _ _ _ _ _ _ us hl => match us, hl with | [_, _, _], _ => rfl
  have b_is_role := F_is_role.binds (ps := p_is_role) fun _ _ _ _ _ _ us hl => match us, hl with | [_], _ => rfl
  have b_keep_apart := F_keep_apart.binds (ps := p_keep_apart) fun _ _ _ _ _ _ us hl => match us, hl with | [_, _, _], _ => rfl
  have b_is_length_of_steps := F_is_length_of_steps.binds (ps := p_is_length_of_steps) fun _ _ _ _ _ _ us hl => match us, hl with | [_], _ => rfl
  have b_step_at := F_step_at.binds (ps := p_step_at) fun _ _ _ _ _ _ us hl => match us, hl with | [_, _], _ => rfl
  have b_steps_of := F_steps_of.binds (ps := p_steps_of) fun _ _ _ _ _ _ us hl => match us, hl with | [_], _ => rfl
  have b_may_be_step := F_may_be_step.binds (ps := p_may_be_step) fun _ _ _ _ _ _ us hl => match us, hl with | [_, _], _ => rfl
  have b_add_procedure := F_add_procedure.binds (ps := p_add_procedure) fun _ _ _ _ _ _ us hl => match us, hl with | [_, _], _ => rfl
  have b_file_paper := F_file_paper.binds (ps := p_file_paper) fun _ _ _ _ _ _ us hl => match us, hl with | [_, _, _], _ => rfl
  have b_withdraw_paper := F_withdraw_paper.binds (ps := p_withdraw_paper) fun _ _ _ _ _ _ us hl => match us, hl with | [_, _, _], _ => rfl
  have b_may_be_last_day := F_may_be_last_day.binds (ps := p_may_be_last_day) fun _ _ _ _ _ _ us hl => match us, hl with | [_, _], _ => rfl
  have b_be_away := F_be_away.binds (ps := p_be_away) fun _ _ _ _ _ _ us hl => match us, hl with | [_, _, _, _], _ => rfl
  have b_be_back := F_be_back.binds (ps := p_be_back) fun _ _ _ _ _ _ us hl => match us, hl with | [_, _], _ => rfl
  have b_is_late := F_is_late.binds (ps := p_is_late) fun _ _ _ _ _ _ us hl => match us, hl with | [_, _], _ => rfl
  have b_rise_or_lapse := F_rise_or_lapse.binds (ps := p_rise_or_lapse) fun _ _ _ _ _ _ us hl => match us, hl with | [_, _], _ => rfl
  have b_pass_one_day := F_pass_one_day.binds (ps := p_pass_one_day) fun _ _ _ _ _ _ us hl => match us, hl with | [_], _ => rfl
  have b_pass_days := F_pass_days.binds (ps := p_pass_days) fun _ _ _ _ _ _ us hl => match us, hl with | [_, _], _ => rfl
  have b_answer_of_order := F_answer_of_order.binds (ps := p_answer_of_order) fun _ _ _ _ _ _ us hl => match us, hl with | [_, _, _], _ => rfl
  have b_answer_of := F_answer_of.binds (ps := p_answer_of) fun _ _ _ _ _ _ us hl => match us, hl with | [_, _, _], _ => rfl
  have b_answers := F_answers.binds (ps := p_answers) fun _ _ _ _ _ _ us hl => match us, hl with | [_], _ => rfl
  have g_Office : ∀ base : Heap, Mak P w K mg base 1 "Office" C.O p_Office (sp_Office C) := fun base => ⟨⟨f_Office, fd_Office, M_Office, ok_Office F_Office T, PySem.W.mg_of X G a_Office, b_Office⟩⟩
  have g_end_of_numbers := fun base : Heap => (Cal.mk ⟨f_end_of_numbers, fd_end_of_numbers, ok_end_of_numbers F_end_of_numbers T m_HOW_MANY_NUMBERS d_HOW_MANY_NUMBERS, PySem.W.mg_of X G a_end_of_numbers, F_end_of_numbers.kp, b_end_of_numbers⟩ : Cal P w K mg base 1 "end_of_numbers" p_end_of_numbers _)
  have g_begin_of_numbers := fun base : Heap => (Cal.mk ⟨f_begin_of_numbers, fd_begin_of_numbers, ok_begin_of_numbers F_begin_of_numbers T, PySem.W.mg_of X G a_begin_of_numbers, F_begin_of_numbers.kp, b_begin_of_numbers⟩ : Cal P w K mg base 1 "begin_of_numbers" p_begin_of_numbers _)
  have g_has := fun base : Heap => (Cal.mk ⟨f_has, fd_has, ok_has F_has T, PySem.W.mg_of X G a_has, F_has.kp, b_has⟩ : Cal P w K mg base 1 "has" p_has _)
  have g_current_step := fun base : Heap => (Cal.mk ⟨f_current_step, fd_current_step, ok_current_step F_current_step T, PySem.W.mg_of X G a_current_step, F_current_step.kp, b_current_step⟩ : Cal P w K mg base 1 "current_step" p_current_step _)
  have g_stands_for := fun base : Heap => (Cal.mk ⟨f_stands_for, fd_stands_for, ok_stands_for F_stands_for T, PySem.W.mg_of X G a_stands_for, F_stands_for.kp, b_stands_for⟩ : Cal P w K mg base 1 "stands_for" p_stands_for _)
  have g_holds := fun base : Heap => (Cal.mk ⟨f_holds, fd_holds, ok_holds F_holds T, PySem.W.mg_of X G a_holds, F_holds.kp, b_holds⟩ : Cal P w K mg base 1 "holds" p_holds _)
  have g_is_within_levels_above := fun base : Heap => (Cal.mk ⟨f_is_within_levels_above, fd_is_within_levels_above, ok_is_within_levels_above F_is_within_levels_above T, PySem.W.mg_of X G a_is_within_levels_above, F_is_within_levels_above.kp, b_is_within_levels_above⟩ : Cal P w K mg base 1 "is_within_levels_above" p_is_within_levels_above _)
  have g_is_entitled := fun base : Heap => (Cal.mk ⟨f_is_entitled, fd_is_entitled, ok_is_entitled F_is_entitled T (g_holds base) (g_is_within_levels_above base), PySem.W.mg_of X G a_is_entitled, F_is_entitled.kp, b_is_entitled⟩ : Cal P w K mg base 2 "is_entitled" p_is_entitled _)
  have g_has_part_in := fun base : Heap => (Cal.mk ⟨f_has_part_in, fd_has_part_in, ok_has_part_in F_has_part_in T, PySem.W.mg_of X G a_has_part_in, F_has_part_in.kp, b_has_part_in⟩ : Cal P w K mg base 1 "has_part_in" p_has_part_in _)
  have g_acted_in_this_round := fun base : Heap => (Cal.mk ⟨f_acted_in_this_round, fd_acted_in_this_round, ok_acted_in_this_round F_acted_in_this_round T (g_has_part_in base), PySem.W.mg_of X G a_acted_in_this_round, F_acted_in_this_round.kp, b_acted_in_this_round⟩ : Cal P w K mg base 2 "acted_in_this_round" p_acted_in_this_round _)
  have g_acted_in_a_role_kept_apart := fun base : Heap => (Cal.mk ⟨f_acted_in_a_role_kept_apart, fd_acted_in_a_role_kept_apart, ok_acted_in_a_role_kept_apart F_acted_in_a_role_kept_apart T (g_has_part_in base), PySem.W.mg_of X G a_acted_in_a_role_kept_apart, F_acted_in_a_role_kept_apart.kp, b_acted_in_a_role_kept_apart⟩ : Cal P w K mg base 2 "acted_in_a_role_kept_apart" p_acted_in_a_role_kept_apart _)
  have g_refusal_to_act := fun base : Heap => (Cal.mk ⟨f_refusal_to_act, fd_refusal_to_act, ok_refusal_to_act F_refusal_to_act T (g_current_step base) (g_stands_for base) (g_is_entitled base) (g_acted_in_this_round base) (g_acted_in_a_role_kept_apart base), PySem.W.mg_of X G a_refusal_to_act, F_refusal_to_act.kp, b_refusal_to_act⟩ : Cal P w K mg base 3 "refusal_to_act" p_refusal_to_act _)
  have g_may_act := fun base : Heap => (Cal.mk ⟨f_may_act, fd_may_act, ok_may_act F_may_act T (g_has base) (g_refusal_to_act base), PySem.W.mg_of X G a_may_act, F_may_act.kp, b_may_act⟩ : Cal P w K mg base 4 "may_act" p_may_act _)
  have g_Act : ∀ base : Heap, Mak P w K mg base 1 "Act" C.A p_Act (sp_Act C) := fun base => ⟨⟨f_Act, fd_Act, M_Act, ok_Act F_Act T, PySem.W.mg_of X G a_Act, b_Act⟩⟩
  have g_note_act := fun base : Heap => (Cal.mk ⟨f_note_act, fd_note_act, ok_note_act F_note_act T (g_Act base), PySem.W.mg_of X G a_note_act, F_note_act.kp, b_note_act⟩ : Cal P w K mg base 3 "note_act" p_note_act _)
  have g_signatures_in_this_round := fun base : Heap => (Cal.mk ⟨f_signatures_in_this_round, fd_signatures_in_this_round, ok_signatures_in_this_round F_signatures_in_this_round T, PySem.W.mg_of X G a_signatures_in_this_round, F_signatures_in_this_round.kp, b_signatures_in_this_round⟩ : Cal P w K mg base 1 "signatures_in_this_round" p_signatures_in_this_round _)
  have g_due_from_today := fun base : Heap => (Cal.mk ⟨f_due_from_today, fd_due_from_today, ok_due_from_today F_due_from_today T (g_current_step base), PySem.W.mg_of X G a_due_from_today, F_due_from_today.kp, b_due_from_today⟩ : Cal P w K mg base 2 "due_from_today" p_due_from_today _)
  have g_come_to := fun base : Heap => (Cal.mk ⟨f_come_to, fd_come_to, ok_come_to F_come_to T (g_due_from_today base), PySem.W.mg_of X G a_come_to, F_come_to.kp, b_come_to⟩ : Cal P w K mg base 3 "come_to" p_come_to _)
  have g_go_on := fun base : Heap => (Cal.mk ⟨f_go_on, fd_go_on, ok_go_on F_go_on T (g_come_to base), PySem.W.mg_of X G a_go_on, F_go_on.kp, b_go_on⟩ : Cal P w K mg base 4 "go_on" p_go_on _)
  have g_sign_paper := fun base : Heap => (Cal.mk ⟨f_sign_paper, fd_sign_paper, ok_sign_paper F_sign_paper T (g_may_act base) (g_note_act base) (g_signatures_in_this_round base) (g_current_step base) (g_go_on base), PySem.W.mg_of X G a_sign_paper, F_sign_paper.kp, b_sign_paper⟩ : Cal P w K mg base 5 "sign_paper" p_sign_paper _)
  have g_go_back := fun base : Heap => (Cal.mk ⟨f_go_back, fd_go_back, ok_go_back F_go_back T (g_current_step base) (g_come_to base), PySem.W.mg_of X G a_go_back, F_go_back.kp, b_go_back⟩ : Cal P w K mg base 4 "go_back" p_go_back _)
  have g_refuse_paper := fun base : Heap => (Cal.mk ⟨f_refuse_paper, fd_refuse_paper, ok_refuse_paper F_refuse_paper T (g_may_act base) (g_note_act base) (g_go_back base), PySem.W.mg_of X G a_refuse_paper, F_refuse_paper.kp, b_refuse_paper⟩ : Cal P w K mg base 5 "refuse_paper" p_refuse_paper _)
  have g_answer_of_act := fun base : Heap => (Cal.mk ⟨f_answer_of_act, fd_answer_of_act, ok_answer_of_act F_answer_of_act T (g_sign_paper base) (g_refuse_paper base) (g_may_act base), PySem.W.mg_of X G a_answer_of_act, F_answer_of_act.kp, b_answer_of_act⟩ : Cal P w K mg base 6 "answer_of_act" p_answer_of_act _)
  have g_tell_paper := fun base : Heap => (Cal.mk ⟨f_tell_paper, fd_tell_paper, ok_tell_paper F_tell_paper T (g_has base), PySem.W.mg_of X G a_tell_paper, F_tell_paper.kp, b_tell_paper⟩ : Cal P w K mg base 2 "tell_paper" p_tell_paper _)
  have g_tell_acts := fun base : Heap => (Cal.mk ⟨f_tell_acts, fd_tell_acts, ok_tell_acts F_tell_acts T (g_has base), PySem.W.mg_of X G a_tell_acts, F_tell_acts.kp, b_tell_acts⟩ : Cal P w K mg base 2 "tell_acts" p_tell_acts _)
  have g_with_count := fun base : Heap => (Cal.mk ⟨f_with_count, fd_with_count, ok_with_count F_with_count T, PySem.W.mg_of X G a_with_count, F_with_count.kp, b_with_count⟩ : Cal P w K mg base 1 "with_count" p_with_count _)
  have g_may_act_for_themselves := fun base : Heap => (Cal.mk ⟨f_may_act_for_themselves, fd_may_act_for_themselves, ok_may_act_for_themselves F_may_act_for_themselves T (g_refusal_to_act base), PySem.W.mg_of X G a_may_act_for_themselves, F_may_act_for_themselves.kp, b_may_act_for_themselves⟩ : Cal P w K mg base 4 "may_act_for_themselves" p_may_act_for_themselves _)
  have g_tell_who := fun base : Heap => (Cal.mk ⟨f_tell_who, fd_tell_who, ok_tell_who F_tell_who T (g_has base) (g_with_count base) (g_may_act_for_themselves base), PySem.W.mg_of X G a_tell_who, F_tell_who.kp, b_tell_who⟩ : Cal P w K mg base 5 "tell_who" p_tell_who _)
  have g_tell_waiting := fun base : Heap => (Cal.mk ⟨f_tell_waiting, fd_tell_waiting, ok_tell_waiting F_tell_waiting T (g_has base) (g_with_count base) (g_may_act_for_themselves base), PySem.W.mg_of X G a_tell_waiting, F_tell_waiting.kp, b_tell_waiting⟩ : Cal P w K mg base 5 "tell_waiting" p_tell_waiting _)
  have g_answer_of_question := fun base : Heap => (Cal.mk ⟨f_answer_of_question, fd_answer_of_question, ok_answer_of_question F_answer_of_question T (g_tell_paper base) (g_tell_acts base) (g_tell_who base) (g_tell_waiting base), PySem.W.mg_of X G a_answer_of_question, F_answer_of_question.kp, b_answer_of_question⟩ : Cal P w K mg base 6 "answer_of_question" p_answer_of_question _)
  have g_are_roles := fun base : Heap => (Cal.mk ⟨f_are_roles, fd_are_roles, ok_are_roles F_are_roles T, PySem.W.mg_of X G a_are_roles, F_are_roles.kp, b_are_roles⟩ : Cal P w K mg base 1 "are_roles" p_are_roles _)
  have g_may_be_chief := fun base : Heap => (Cal.mk ⟨f_may_be_chief, fd_may_be_chief, ok_may_be_chief F_may_be_chief T (g_has base), PySem.W.mg_of X G a_may_be_chief, F_may_be_chief.kp, b_may_be_chief⟩ : Cal P w K mg base 2 "may_be_chief" p_may_be_chief _)
  have g_Person : ∀ base : Heap, Mak P w K mg base 1 "Person" C.P p_Person (sp_Person C) := fun base => ⟨⟨f_Person, fd_Person, M_Person, ok_Person F_Person T, PySem.W.mg_of X G a_Person, b_Person⟩⟩
  have g_add_person := fun base : Heap => (Cal.mk ⟨f_add_person, fd_add_person, ok_add_person F_add_person T (g_are_roles base) (g_may_be_chief base) (g_Person base), PySem.W.mg_of X G a_add_person, F_add_person.kp, b_add_person⟩ : Cal P w K mg base 3 "add_person" p_add_person _)
  have g_give_roles := fun base : Heap => (Cal.mk ⟨f_give_roles, fd_give_roles, ok_give_roles F_give_roles T (g_has base) (g_are_roles base), PySem.W.mg_of X G a_give_roles, F_give_roles.kp, b_give_roles⟩ : Cal P w K mg base 2 "give_roles" p_give_roles _)
  have g_is_role := fun base : Heap => (Cal.mk ⟨f_is_role, fd_is_role, ok_is_role F_is_role T, PySem.W.mg_of X G a_is_role, F_is_role.kp, b_is_role⟩ : Cal P w K mg base 1 "is_role" p_is_role _)
  have g_keep_apart := fun base : Heap => (Cal.mk ⟨f_keep_apart, fd_keep_apart, ok_keep_apart F_keep_apart T (g_is_role base), PySem.W.mg_of X G a_keep_apart, F_keep_apart.kp, b_keep_apart⟩ : Cal P w K mg base 2 "keep_apart" p_keep_apart _)
  have g_is_length_of_steps := fun base : Heap => (Cal.mk ⟨f_is_length_of_steps, fd_is_length_of_steps, ok_is_length_of_steps F_is_length_of_steps T, PySem.W.mg_of X G a_is_length_of_steps, F_is_length_of_steps.kp, b_is_length_of_steps⟩ : Cal P w K mg base 1 "is_length_of_steps" p_is_length_of_steps _)
  have g_Step : ∀ base : Heap, Mak P w K mg base 1 "Step" C.S p_Step (sp_Step C) := fun base => ⟨⟨f_Step, fd_Step, M_Step, ok_Step F_Step T, PySem.W.mg_of X G a_Step, b_Step⟩⟩
  have g_step_at := fun base : Heap => (Cal.mk ⟨f_step_at, fd_step_at, ok_step_at F_step_at T (g_Step base), PySem.W.mg_of X G a_step_at, F_step_at.kp, b_step_at⟩ : Cal P w K mg base 3 "step_at" p_step_at _)
  have g_steps_of := fun base : Heap => (Cal.mk ⟨f_steps_of, fd_steps_of, ok_steps_of F_steps_of T (g_step_at base), PySem.W.mg_of X G a_steps_of, F_steps_of.kp, b_steps_of⟩ : Cal P w K mg base 4 "steps_of" p_steps_of _)
  have g_may_be_step := fun base : Heap => (Cal.mk ⟨f_may_be_step, fd_may_be_step, ok_may_be_step F_may_be_step T (g_is_role base), PySem.W.mg_of X G a_may_be_step, F_may_be_step.kp, b_may_be_step⟩ : Cal P w K mg base 2 "may_be_step" p_may_be_step _)
  have g_add_procedure := fun base : Heap => (Cal.mk ⟨f_add_procedure, fd_add_procedure, ok_add_procedure F_add_procedure T (g_is_length_of_steps base) (g_steps_of base) (g_may_be_step base), PySem.W.mg_of X G a_add_procedure, F_add_procedure.kp, b_add_procedure⟩ : Cal P w K mg base 5 "add_procedure" p_add_procedure _)
  have g_Paper : ∀ base : Heap, Mak P w K mg base 1 "Paper" C.X p_Paper (sp_Paper C) := fun base => ⟨⟨f_Paper, fd_Paper, M_Paper, ok_Paper F_Paper T, PySem.W.mg_of X G a_Paper, b_Paper⟩⟩
  have g_file_paper := fun base : Heap => (Cal.mk ⟨f_file_paper, fd_file_paper, ok_file_paper F_file_paper T (g_has base) (g_Paper base) (g_come_to base), PySem.W.mg_of X G a_file_paper, F_file_paper.kp, b_file_paper⟩ : Cal P w K mg base 4 "file_paper" p_file_paper _)
  have g_withdraw_paper := fun base : Heap => (Cal.mk ⟨f_withdraw_paper, fd_withdraw_paper, ok_withdraw_paper F_withdraw_paper T (g_has base), PySem.W.mg_of X G a_withdraw_paper, F_withdraw_paper.kp, b_withdraw_paper⟩ : Cal P w K mg base 2 "withdraw_paper" p_withdraw_paper _)
  have g_may_be_last_day := fun base : Heap => (Cal.mk ⟨f_may_be_last_day, fd_may_be_last_day, ok_may_be_last_day F_may_be_last_day T, PySem.W.mg_of X G a_may_be_last_day, F_may_be_last_day.kp, b_may_be_last_day⟩ : Cal P w K mg base 1 "may_be_last_day" p_may_be_last_day _)
  have g_be_away := fun base : Heap => (Cal.mk ⟨f_be_away, fd_be_away, ok_be_away F_be_away T (g_has base) (g_may_be_last_day base), PySem.W.mg_of X G a_be_away, F_be_away.kp, b_be_away⟩ : Cal P w K mg base 2 "be_away" p_be_away _)
  have g_be_back := fun base : Heap => (Cal.mk ⟨f_be_back, fd_be_back, ok_be_back F_be_back T (g_has base), PySem.W.mg_of X G a_be_back, F_be_back.kp, b_be_back⟩ : Cal P w K mg base 2 "be_back" p_be_back _)
  have g_is_late := fun base : Heap => (Cal.mk ⟨f_is_late, fd_is_late, ok_is_late F_is_late T, PySem.W.mg_of X G a_is_late, F_is_late.kp, b_is_late⟩ : Cal P w K mg base 1 "is_late" p_is_late _)
  have g_rise_or_lapse := fun base : Heap => (Cal.mk ⟨f_rise_or_lapse, fd_rise_or_lapse, ok_rise_or_lapse F_rise_or_lapse T (g_due_from_today base), PySem.W.mg_of X G a_rise_or_lapse, F_rise_or_lapse.kp, b_rise_or_lapse⟩ : Cal P w K mg base 3 "rise_or_lapse" p_rise_or_lapse _)
  have g_pass_one_day := fun base : Heap => (Cal.mk ⟨f_pass_one_day, fd_pass_one_day, ok_pass_one_day F_pass_one_day T (g_is_late base) (g_rise_or_lapse base), PySem.W.mg_of X G a_pass_one_day, F_pass_one_day.kp, b_pass_one_day⟩ : Cal P w K mg base 4 "pass_one_day" p_pass_one_day _)
  have g_pass_days := fun base : Heap => (Cal.mk ⟨f_pass_days, fd_pass_days, ok_pass_days F_pass_days T (g_pass_one_day base), PySem.W.mg_of X G a_pass_days, F_pass_days.kp, b_pass_days⟩ : Cal P w K mg base 5 "pass_days" p_pass_days _)
  have g_answer_of_order := fun base : Heap => (Cal.mk ⟨f_answer_of_order, fd_answer_of_order, ok_answer_of_order F_answer_of_order T (g_add_person base) (g_give_roles base) (g_keep_apart base) (g_add_procedure base) (g_file_paper base) (g_withdraw_paper base) (g_be_away base) (g_be_back base) (g_pass_days base), PySem.W.mg_of X G a_answer_of_order, F_answer_of_order.kp, b_answer_of_order⟩ : Cal P w K mg base 6 "answer_of_order" p_answer_of_order _)
  have g_answer_of := fun base : Heap => (Cal.mk ⟨f_answer_of, fd_answer_of, ok_answer_of F_answer_of T (g_answer_of_act base) (g_answer_of_question base) (g_answer_of_order base), PySem.W.mg_of X G a_answer_of, F_answer_of.kp, b_answer_of⟩ : Cal P w K mg base 7 "answer_of" p_answer_of _)
  have e := hfa.symm.trans (PySem.W.mg_of X G a_answers)
  cases e
  have hb : ∀ (s : Shared) (v : Value), BindsTo s fd_answers ⟨[v], []⟩ [("calls", v)] := by
    obtain ⟨oc, od, kV, doc, pm, an, cdv, ct, osl, rfl, lk, hcd⟩ := F_answers.ex
    exact fun s v => .of_eq rfl
  exact ⟨fd_answers, hb, fun base => ok_answers F_answers T (g_Office base) (g_end_of_numbers base) (g_begin_of_numbers base) (g_answer_of base)⟩
theorem top_mk {P : Program} {w : World} {K : PySem.W.Frag} {h : Heap} {mg : Str → Option Value} {fa : Addr} (X : K.In h) (G : h.Ns mainGlobals mg) (hfa : mg "answers" = some (.ref fa))
    {C_Person i_Person : Addr} {od_Person an_Person : Option Addr} {sl_Person : Array (Option Value)} {oc_Person kV_Person dc_Person pm_Person cd_Person ct_Person : Value}
    (a_Person : PySem.W.nsIn K mainGlobals "Person" = some (some (.ref C_Person)))
    (pg_Person : PySem.W.plainGet K C_Person Str.empty = true)
    (hd_Person : PySem.W.hasDictIn K C_Person = true)
    (po_Person : PySem.W.plainOver K C_Person = true)
    (sa_Person : PySem.W.findIn K (.ref C_Person) "__setattr__" = some (some (.builtin "object.__setattr__")))
    (mk_Person : PySem.W.makesIn K C_Person = true)
    (kc_Person : PySem.W.keepIn K (.ref C_Person) = true)
    (ini_Person : PySem.W.findIn K (.ref C_Person) "__init__" = some (some (.ref i_Person)))
    (isf_Person : PySem.W.isFn K (.ref i_Person) = true)
    (l_Person : K.lookup i_Person = some ⟨oc_Person, od_Person, .func (PySem.W.fnOf "__init__" "Person.__init__" (defArgs s_Person) (defBody s_Person) (defScope s_Person) .none kV_Person dc_Person pm_Person an_Person cd_Person ct_Person), sl_Person⟩)
    (c_Person : PySem.W.codeIn K cd_Person "Person.__init__" = true)
    (k_Person : PySem.W.keepIn K (.ref i_Person) = true)
    (n_Person_roles : PySem.W.findIn K (.ref C_Person) "roles" = some none)
    (n_Person_chief : PySem.W.findIn K (.ref C_Person) "chief" = some none)
    (n_Person_stand_in : PySem.W.findIn K (.ref C_Person) "stand_in" = some none)
    (n_Person_stand_in_until : PySem.W.findIn K (.ref C_Person) "stand_in_until" = some none)
    {C_Step i_Step : Addr} {od_Step an_Step : Option Addr} {sl_Step : Array (Option Value)} {oc_Step kV_Step dc_Step pm_Step cd_Step ct_Step : Value}
    (a_Step : PySem.W.nsIn K mainGlobals "Step" = some (some (.ref C_Step)))
    (pg_Step : PySem.W.plainGet K C_Step Str.empty = true)
    (hd_Step : PySem.W.hasDictIn K C_Step = true)
    (po_Step : PySem.W.plainOver K C_Step = true)
    (sa_Step : PySem.W.findIn K (.ref C_Step) "__setattr__" = some (some (.builtin "object.__setattr__")))
    (mk_Step : PySem.W.makesIn K C_Step = true)
    (kc_Step : PySem.W.keepIn K (.ref C_Step) = true)
    (ini_Step : PySem.W.findIn K (.ref C_Step) "__init__" = some (some (.ref i_Step)))
    (isf_Step : PySem.W.isFn K (.ref i_Step) = true)
    (l_Step : K.lookup i_Step = some ⟨oc_Step, od_Step, .func (PySem.W.fnOf "__init__" "Step.__init__" (defArgs s_Step) (defBody s_Step) (defScope s_Step) .none kV_Step dc_Step pm_Step an_Step cd_Step ct_Step), sl_Step⟩)
    (c_Step : PySem.W.codeIn K cd_Step "Step.__init__" = true)
    (k_Step : PySem.W.keepIn K (.ref i_Step) = true)
    (n_Step_role : PySem.W.findIn K (.ref C_Step) "role" = some none)
    (n_Step_signatures : PySem.W.findIn K (.ref C_Step) "signatures" = some none)
    (n_Step_days : PySem.W.findIn K (.ref C_Step) "days" = some none)
    (n_Step_writer_may_sign : PySem.W.findIn K (.ref C_Step) "writer_may_sign" = some none)
    (n_Step_goes_back_to : PySem.W.findIn K (.ref C_Step) "goes_back_to" = some none)
    {C_Act i_Act : Addr} {od_Act an_Act : Option Addr} {sl_Act : Array (Option Value)} {oc_Act kV_Act dc_Act pm_Act cd_Act ct_Act : Value}
    (a_Act : PySem.W.nsIn K mainGlobals "Act" = some (some (.ref C_Act)))
    (pg_Act : PySem.W.plainGet K C_Act Str.empty = true)
    (hd_Act : PySem.W.hasDictIn K C_Act = true)
    (po_Act : PySem.W.plainOver K C_Act = true)
    (sa_Act : PySem.W.findIn K (.ref C_Act) "__setattr__" = some (some (.builtin "object.__setattr__")))
    (mk_Act : PySem.W.makesIn K C_Act = true)
    (kc_Act : PySem.W.keepIn K (.ref C_Act) = true)
    (ini_Act : PySem.W.findIn K (.ref C_Act) "__init__" = some (some (.ref i_Act)))
    (isf_Act : PySem.W.isFn K (.ref i_Act) = true)
    (l_Act : K.lookup i_Act = some ⟨oc_Act, od_Act, .func (PySem.W.fnOf "__init__" "Act.__init__" (defArgs s_Act) (defBody s_Act) (defScope s_Act) .none kV_Act dc_Act pm_Act an_Act cd_Act ct_Act), sl_Act⟩)
    (c_Act : PySem.W.codeIn K cd_Act "Act.__init__" = true)
    (k_Act : PySem.W.keepIn K (.ref i_Act) = true)
    (n_Act_step : PySem.W.findIn K (.ref C_Act) "step" = some none)
    (n_Act_turn : PySem.W.findIn K (.ref C_Act) "turn" = some none)
    (n_Act_by : PySem.W.findIn K (.ref C_Act) "by" = some none)
    (n_Act_behalf : PySem.W.findIn K (.ref C_Act) "behalf" = some none)
    (n_Act_signed : PySem.W.findIn K (.ref C_Act) "signed" = some none)
    {C_Paper i_Paper : Addr} {od_Paper an_Paper : Option Addr} {sl_Paper : Array (Option Value)} {oc_Paper kV_Paper dc_Paper pm_Paper cd_Paper ct_Paper : Value}
    (a_Paper : PySem.W.nsIn K mainGlobals "Paper" = some (some (.ref C_Paper)))
    (pg_Paper : PySem.W.plainGet K C_Paper Str.empty = true)
    (hd_Paper : PySem.W.hasDictIn K C_Paper = true)
    (po_Paper : PySem.W.plainOver K C_Paper = true)
    (sa_Paper : PySem.W.findIn K (.ref C_Paper) "__setattr__" = some (some (.builtin "object.__setattr__")))
    (mk_Paper : PySem.W.makesIn K C_Paper = true)
    (kc_Paper : PySem.W.keepIn K (.ref C_Paper) = true)
    (ini_Paper : PySem.W.findIn K (.ref C_Paper) "__init__" = some (some (.ref i_Paper)))
    (isf_Paper : PySem.W.isFn K (.ref i_Paper) = true)
    (l_Paper : K.lookup i_Paper = some ⟨oc_Paper, od_Paper, .func (PySem.W.fnOf "__init__" "Paper.__init__" (defArgs s_Paper) (defBody s_Paper) (defScope s_Paper) .none kV_Paper dc_Paper pm_Paper an_Paper cd_Paper ct_Paper), sl_Paper⟩)
    (c_Paper : PySem.W.codeIn K cd_Paper "Paper.__init__" = true)
    (k_Paper : PySem.W.keepIn K (.ref i_Paper) = true)
    (n_Paper_writer : PySem.W.findIn K (.ref C_Paper) "writer" = some none)
    (n_Paper_procedure : PySem.W.findIn K (.ref C_Paper) "procedure" = some none)
    (n_Paper_state : PySem.W.findIn K (.ref C_Paper) "state" = some none)
    (n_Paper_step : PySem.W.findIn K (.ref C_Paper) "step" = some none)
    (n_Paper_turn : PySem.W.findIn K (.ref C_Paper) "turn" = some none)
    (n_Paper_level : PySem.W.findIn K (.ref C_Paper) "level" = some none)
    (n_Paper_due : PySem.W.findIn K (.ref C_Paper) "due" = some none)
    (n_Paper_acts : PySem.W.findIn K (.ref C_Paper) "acts" = some none)
    {C_Office i_Office : Addr} {od_Office an_Office : Option Addr} {sl_Office : Array (Option Value)} {oc_Office kV_Office dc_Office pm_Office cd_Office ct_Office : Value}
    (a_Office : PySem.W.nsIn K mainGlobals "Office" = some (some (.ref C_Office)))
    (pg_Office : PySem.W.plainGet K C_Office Str.empty = true)
    (hd_Office : PySem.W.hasDictIn K C_Office = true)
    (po_Office : PySem.W.plainOver K C_Office = true)
    (sa_Office : PySem.W.findIn K (.ref C_Office) "__setattr__" = some (some (.builtin "object.__setattr__")))
    (mk_Office : PySem.W.makesIn K C_Office = true)
    (kc_Office : PySem.W.keepIn K (.ref C_Office) = true)
    (ini_Office : PySem.W.findIn K (.ref C_Office) "__init__" = some (some (.ref i_Office)))
    (isf_Office : PySem.W.isFn K (.ref i_Office) = true)
    (l_Office : K.lookup i_Office = some ⟨oc_Office, od_Office, .func (PySem.W.fnOf "__init__" "Office.__init__" (defArgs s_Office) (defBody s_Office) (defScope s_Office) .none kV_Office dc_Office pm_Office an_Office cd_Office ct_Office), sl_Office⟩)
    (c_Office : PySem.W.codeIn K cd_Office "Office.__init__" = true)
    (k_Office : PySem.W.keepIn K (.ref i_Office) = true)
    (n_Office_today : PySem.W.findIn K (.ref C_Office) "today" = some none)
    (n_Office_people : PySem.W.findIn K (.ref C_Office) "people" = some none)
    (n_Office_kept_apart : PySem.W.findIn K (.ref C_Office) "kept_apart" = some none)
    (n_Office_procedures : PySem.W.findIn K (.ref C_Office) "procedures" = some none)
    (n_Office_papers : PySem.W.findIn K (.ref C_Office) "papers" = some none)
    {t_NOBODY : Tok} (e_NOBODY : PySem.W.nsIn K mainGlobals "NOBODY" = some (some (.int (-1) t_NOBODY)))
    {t_NOWHERE : Tok} (e_NOWHERE : PySem.W.nsIn K mainGlobals "NOWHERE" = some (some (.int (-1) t_NOWHERE)))
    {t_LAST_ROLE : Tok} (e_LAST_ROLE : PySem.W.nsIn K mainGlobals "LAST_ROLE" = some (some (.int (15) t_LAST_ROLE)))
    {t_UNDER_WAY : Tok} (e_UNDER_WAY : PySem.W.nsIn K mainGlobals "UNDER_WAY" = some (some (.int (0) t_UNDER_WAY)))
    {t_APPROVED : Tok} (e_APPROVED : PySem.W.nsIn K mainGlobals "APPROVED" = some (some (.int (1) t_APPROVED)))
    {t_REFUSED : Tok} (e_REFUSED : PySem.W.nsIn K mainGlobals "REFUSED" = some (some (.int (2) t_REFUSED)))
    {t_WITHDRAWN : Tok} (e_WITHDRAWN : PySem.W.nsIn K mainGlobals "WITHDRAWN" = some (some (.int (3) t_WITHDRAWN)))
    {t_LAPSED : Tok} (e_LAPSED : PySem.W.nsIn K mainGlobals "LAPSED" = some (some (.int (4) t_LAPSED)))
    {t_NOT_ONE_THAT_MAY_BE : Tok} (e_NOT_ONE_THAT_MAY_BE : PySem.W.nsIn K mainGlobals "NOT_ONE_THAT_MAY_BE" = some (some (.int (-2) t_NOT_ONE_THAT_MAY_BE)))
    {t_TOO_LATE : Tok} (e_TOO_LATE : PySem.W.nsIn K mainGlobals "TOO_LATE" = some (some (.int (-3) t_TOO_LATE)))
    {t_NOT_STANDING_IN : Tok} (e_NOT_STANDING_IN : PySem.W.nsIn K mainGlobals "NOT_STANDING_IN" = some (some (.int (-4) t_NOT_STANDING_IN)))
    {t_NOT_ENTITLED : Tok} (e_NOT_ENTITLED : PySem.W.nsIn K mainGlobals "NOT_ENTITLED" = some (some (.int (-5) t_NOT_ENTITLED)))
    {t_WRITER_MAY_NOT : Tok} (e_WRITER_MAY_NOT : PySem.W.nsIn K mainGlobals "WRITER_MAY_NOT" = some (some (.int (-6) t_WRITER_MAY_NOT)))
    {t_NOT_THE_WRITER : Tok} (e_NOT_THE_WRITER : PySem.W.nsIn K mainGlobals "NOT_THE_WRITER" = some (some (.int (-6) t_NOT_THE_WRITER)))
    {t_ACTED_IN_THIS_ROUND : Tok} (e_ACTED_IN_THIS_ROUND : PySem.W.nsIn K mainGlobals "ACTED_IN_THIS_ROUND" = some (some (.int (-7) t_ACTED_IN_THIS_ROUND)))
    {t_FULL : Tok} (e_FULL : PySem.W.nsIn K mainGlobals "FULL" = some (some (.int (-8) t_FULL)))
    {t_ACTED_IN_A_ROLE_KEPT_APART : Tok} (e_ACTED_IN_A_ROLE_KEPT_APART : PySem.W.nsIn K mainGlobals "ACTED_IN_A_ROLE_KEPT_APART" = some (some (.int (-9) t_ACTED_IN_A_ROLE_KEPT_APART)))
    {t_MOST_DAYS_ON : Tok} (e_MOST_DAYS_ON : PySem.W.nsIn K mainGlobals "MOST_DAYS_ON" = some (some (.int (1000) t_MOST_DAYS_ON)))
    {t_MOST_DAYS_IN_ONE_CALL : Tok} (e_MOST_DAYS_IN_ONE_CALL : PySem.W.nsIn K mainGlobals "MOST_DAYS_IN_ONE_CALL" = some (some (.int (30) t_MOST_DAYS_IN_ONE_CALL)))
    {t_HIGHEST_LEVEL : Tok} (e_HIGHEST_LEVEL : PySem.W.nsIn K mainGlobals "HIGHEST_LEVEL" = some (some (.int (5) t_HIGHEST_LEVEL)))
    {t_MOST_PAPERS : Tok} (e_MOST_PAPERS : PySem.W.nsIn K mainGlobals "MOST_PAPERS" = some (some (.int (256) t_MOST_PAPERS)))
    {t_LAST_ROUND : Tok} (e_LAST_ROUND : PySem.W.nsIn K mainGlobals "LAST_ROUND" = some (some (.int (10) t_LAST_ROUND)))
    {t_MOST_PEOPLE : Tok} (e_MOST_PEOPLE : PySem.W.nsIn K mainGlobals "MOST_PEOPLE" = some (some (.int (32) t_MOST_PEOPLE)))
    {t_ALL_ROLES : Tok} (e_ALL_ROLES : PySem.W.nsIn K mainGlobals "ALL_ROLES" = some (some (.int (65535) t_ALL_ROLES)))
    {t_MOST_PROCEDURES : Tok} (e_MOST_PROCEDURES : PySem.W.nsIn K mainGlobals "MOST_PROCEDURES" = some (some (.int (16) t_MOST_PROCEDURES)))
    {t_MOST_STEPS : Tok} (e_MOST_STEPS : PySem.W.nsIn K mainGlobals "MOST_STEPS" = some (some (.int (16) t_MOST_STEPS)))
    {t_NUMBERS_OF_A_STEP : Tok} (e_NUMBERS_OF_A_STEP : PySem.W.nsIn K mainGlobals "NUMBERS_OF_A_STEP" = some (some (.int (5) t_NUMBERS_OF_A_STEP)))
    {t_MOST_SIGNATURES : Tok} (e_MOST_SIGNATURES : PySem.W.nsIn K mainGlobals "MOST_SIGNATURES" = some (some (.int (3) t_MOST_SIGNATURES)))
    {t_MOST_DAYS : Tok} (e_MOST_DAYS : PySem.W.nsIn K mainGlobals "MOST_DAYS" = some (some (.int (30) t_MOST_DAYS)))
    {t_PERSON : Tok} (e_PERSON : PySem.W.nsIn K mainGlobals "PERSON" = some (some (.int (1) t_PERSON)))
    {t_ROLES : Tok} (e_ROLES : PySem.W.nsIn K mainGlobals "ROLES" = some (some (.int (2) t_ROLES)))
    {t_APART : Tok} (e_APART : PySem.W.nsIn K mainGlobals "APART" = some (some (.int (3) t_APART)))
    {t_PROCEDURE : Tok} (e_PROCEDURE : PySem.W.nsIn K mainGlobals "PROCEDURE" = some (some (.int (4) t_PROCEDURE)))
    {t_FILE : Tok} (e_FILE : PySem.W.nsIn K mainGlobals "FILE" = some (some (.int (5) t_FILE)))
    {t_SIGN : Tok} (e_SIGN : PySem.W.nsIn K mainGlobals "SIGN" = some (some (.int (6) t_SIGN)))
    {t_REFUSE : Tok} (e_REFUSE : PySem.W.nsIn K mainGlobals "REFUSE" = some (some (.int (7) t_REFUSE)))
    {t_MAY : Tok} (e_MAY : PySem.W.nsIn K mainGlobals "MAY" = some (some (.int (8) t_MAY)))
    {t_WITHDRAW : Tok} (e_WITHDRAW : PySem.W.nsIn K mainGlobals "WITHDRAW" = some (some (.int (9) t_WITHDRAW)))
    {t_AWAY : Tok} (e_AWAY : PySem.W.nsIn K mainGlobals "AWAY" = some (some (.int (10) t_AWAY)))
    {t_BACK : Tok} (e_BACK : PySem.W.nsIn K mainGlobals "BACK" = some (some (.int (11) t_BACK)))
    {t_TELL : Tok} (e_TELL : PySem.W.nsIn K mainGlobals "TELL" = some (some (.int (13) t_TELL)))
    {t_ACTS : Tok} (e_ACTS : PySem.W.nsIn K mainGlobals "ACTS" = some (some (.int (14) t_ACTS)))
    {t_WHO : Tok} (e_WHO : PySem.W.nsIn K mainGlobals "WHO" = some (some (.int (15) t_WHO)))
    {t_WAITING : Tok} (e_WAITING : PySem.W.nsIn K mainGlobals "WAITING" = some (some (.int (16) t_WAITING)))
    (b_len : PySem.W.nsIn K mainGlobals "len" = some none)
    (b_sum : PySem.W.nsIn K mainGlobals "sum" = some none)
    (b_all : PySem.W.nsIn K mainGlobals "all" = some none)
    (b_range : PySem.W.nsIn K mainGlobals "range" = some none)
    (b_enumerate : PySem.W.nsIn K mainGlobals "enumerate" = some none)
    {d_HOW_MANY_NUMBERS : Addr} {es_HOW_MANY_NUMBERS : Array DictEntry} {ep_HOW_MANY_NUMBERS : Nat} (n_HOW_MANY_NUMBERS : PySem.W.nsIn K mainGlobals "HOW_MANY_NUMBERS" = some (some (.ref d_HOW_MANY_NUMBERS))) (l_HOW_MANY_NUMBERS : K.lookup d_HOW_MANY_NUMBERS = some ⟨.type "dict", none, .dict es_HOW_MANY_NUMBERS ep_HOW_MANY_NUMBERS, #[]⟩) (o_HOW_MANY_NUMBERS : dictOk es_HOW_MANY_NUMBERS.toList howMany = true)
    (D_end_of_numbers : Def K "end_of_numbers" s_end_of_numbers)
    (D_begin_of_numbers : Def K "begin_of_numbers" s_begin_of_numbers)
    (D_has : Def K "has" s_has)
    (D_current_step : Def K "current_step" s_current_step)
    (D_stands_for : Def K "stands_for" s_stands_for)
    (D_holds : Def K "holds" s_holds)
    (D_is_within_levels_above : Def K "is_within_levels_above" s_is_within_levels_above)
    (D_is_entitled : Def K "is_entitled" s_is_entitled)
    (D_has_part_in : Def K "has_part_in" s_has_part_in)
    (D_acted_in_this_round : Def K "acted_in_this_round" s_acted_in_this_round)
    (D_acted_in_a_role_kept_apart : Def K "acted_in_a_role_kept_apart" s_acted_in_a_role_kept_apart)
    (D_refusal_to_act : Def K "refusal_to_act" s_refusal_to_act)
    (D_may_act : Def K "may_act" s_may_act)
    (D_note_act : Def K "note_act" s_note_act)
    (D_signatures_in_this_round : Def K "signatures_in_this_round" s_signatures_in_this_round)
    (D_due_from_today : Def K "due_from_today" s_due_from_today)
    (D_come_to : Def K "come_to" s_come_to)
    (D_go_on : Def K "go_on" s_go_on)
    (D_sign_paper : Def K "sign_paper" s_sign_paper)
    (D_go_back : Def K "go_back" s_go_back)
    (D_refuse_paper : Def K "refuse_paper" s_refuse_paper)
    (D_answer_of_act : Def K "answer_of_act" s_answer_of_act)
    (D_tell_paper : Def K "tell_paper" s_tell_paper)
    (D_tell_acts : Def K "tell_acts" s_tell_acts)
    (D_with_count : Def K "with_count" s_with_count)
    (D_may_act_for_themselves : Def K "may_act_for_themselves" s_may_act_for_themselves)
    (D_tell_who : Def K "tell_who" s_tell_who)
    (D_tell_waiting : Def K "tell_waiting" s_tell_waiting)
    (D_answer_of_question : Def K "answer_of_question" s_answer_of_question)
    (D_are_roles : Def K "are_roles" s_are_roles)
    (D_may_be_chief : Def K "may_be_chief" s_may_be_chief)
    (D_add_person : Def K "add_person" s_add_person)
    (D_give_roles : Def K "give_roles" s_give_roles)
    (D_is_role : Def K "is_role" s_is_role)
    (D_keep_apart : Def K "keep_apart" s_keep_apart)
    (D_is_length_of_steps : Def K "is_length_of_steps" s_is_length_of_steps)
    (D_step_at : Def K "step_at" s_step_at)
    (D_steps_of : Def K "steps_of" s_steps_of)
    (D_may_be_step : Def K "may_be_step" s_may_be_step)
    (D_add_procedure : Def K "add_procedure" s_add_procedure)
    (D_file_paper : Def K "file_paper" s_file_paper)
    (D_withdraw_paper : Def K "withdraw_paper" s_withdraw_paper)
    (D_may_be_last_day : Def K "may_be_last_day" s_may_be_last_day)
    (D_be_away : Def K "be_away" s_be_away)
    (D_be_back : Def K "be_back" s_be_back)
    (D_is_late : Def K "is_late" s_is_late)
    (D_rise_or_lapse : Def K "rise_or_lapse" s_rise_or_lapse)
    (D_pass_one_day : Def K "pass_one_day" s_pass_one_day)
    (D_pass_days : Def K "pass_days" s_pass_days)
    (D_answer_of_order : Def K "answer_of_order" s_answer_of_order)
    (D_answer_of : Def K "answer_of" s_answer_of)
    (D_answers : Def K "answers" s_answers)
    : ∃ fd : FuncData, (∀ (s : Shared) (v : Value), BindsTo s fd ⟨[v], []⟩ [("calls", v)]) ∧ ∀ base : Heap, FnOk P w K mg base CX0 8 fa fd ["calls"] (sp_answers K) :=
  all_of X G hfa (C := ⟨C_Person, C_Step, C_Act, C_Paper, C_Office⟩) ⟨⟨pg_Person, hd_Person, po_Person, sa_Person⟩, n_Person_roles, n_Person_chief, n_Person_stand_in, n_Person_stand_in_until, ⟨pg_Step, hd_Step, po_Step, sa_Step⟩, n_Step_role, n_Step_signatures, n_Step_days, n_Step_writer_may_sign, n_Step_goes_back_to, ⟨pg_Act, hd_Act, po_Act, sa_Act⟩, n_Act_step, n_Act_turn, n_Act_by, n_Act_behalf, n_Act_signed, ⟨pg_Paper, hd_Paper, po_Paper, sa_Paper⟩, n_Paper_writer, n_Paper_procedure, n_Paper_state, n_Paper_step, n_Paper_turn, n_Paper_level, n_Paper_due, n_Paper_acts, ⟨pg_Office, hd_Office, po_Office, sa_Office⟩, n_Office_today, n_Office_people, n_Office_kept_apart, n_Office_procedures, n_Office_papers, (cst_mk X G e_NOBODY), (cst_mk X G e_NOWHERE), (cst_mk X G e_LAST_ROLE), (cst_mk X G e_UNDER_WAY), (cst_mk X G e_APPROVED), (cst_mk X G e_REFUSED), (cst_mk X G e_WITHDRAWN), (cst_mk X G e_LAPSED), (cst_mk X G e_NOT_ONE_THAT_MAY_BE), (cst_mk X G e_TOO_LATE), (cst_mk X G e_NOT_STANDING_IN), (cst_mk X G e_NOT_ENTITLED), (cst_mk X G e_WRITER_MAY_NOT), (cst_mk X G e_NOT_THE_WRITER), (cst_mk X G e_ACTED_IN_THIS_ROUND), (cst_mk X G e_FULL), (cst_mk X G e_ACTED_IN_A_ROLE_KEPT_APART), (cst_mk X G e_MOST_DAYS_ON), (cst_mk X G e_MOST_DAYS_IN_ONE_CALL), (cst_mk X G e_HIGHEST_LEVEL), (cst_mk X G e_MOST_PAPERS), (cst_mk X G e_LAST_ROUND), (cst_mk X G e_MOST_PEOPLE), (cst_mk X G e_ALL_ROLES), (cst_mk X G e_MOST_PROCEDURES), (cst_mk X G e_MOST_STEPS), (cst_mk X G e_NUMBERS_OF_A_STEP), (cst_mk X G e_MOST_SIGNATURES), (cst_mk X G e_MOST_DAYS), (cst_mk X G e_PERSON), (cst_mk X G e_ROLES), (cst_mk X G e_APART), (cst_mk X G e_PROCEDURE), (cst_mk X G e_FILE), (cst_mk X G e_SIGN), (cst_mk X G e_REFUSE), (cst_mk X G e_MAY), (cst_mk X G e_WITHDRAW), (cst_mk X G e_AWAY), (cst_mk X G e_BACK), (cst_mk X G e_TELL), (cst_mk X G e_ACTS), (cst_mk X G e_WHO), (cst_mk X G e_WAITING), (PySem.W.mg_none_of X G b_len), (PySem.W.mg_none_of X G b_sum), (PySem.W.mg_none_of X G b_all), (PySem.W.mg_none_of X G b_range), (PySem.W.mg_none_of X G b_enumerate)⟩
    a_Person ⟨mk_Person, ini_Person, isf_Person, kc_Person⟩ (fun_mk (st := s_Person) l_Person c_Person k_Person)
    a_Step ⟨mk_Step, ini_Step, isf_Step, kc_Step⟩ (fun_mk (st := s_Step) l_Step c_Step k_Step)
    a_Act ⟨mk_Act, ini_Act, isf_Act, kc_Act⟩ (fun_mk (st := s_Act) l_Act c_Act k_Act)
    a_Paper ⟨mk_Paper, ini_Paper, isf_Paper, kc_Paper⟩ (fun_mk (st := s_Paper) l_Paper c_Paper k_Paper)
    a_Office ⟨mk_Office, ini_Office, isf_Office, kc_Office⟩ (fun_mk (st := s_Office) l_Office c_Office k_Office)
    D_end_of_numbers D_begin_of_numbers D_has D_current_step D_stands_for D_holds D_is_within_levels_above D_is_entitled D_has_part_in D_acted_in_this_round D_acted_in_a_role_kept_apart D_refusal_to_act D_may_act D_note_act D_signatures_in_this_round D_due_from_today D_come_to D_go_on D_sign_paper D_go_back D_refuse_paper D_answer_of_act D_tell_paper D_tell_acts D_with_count D_may_act_for_themselves D_tell_who D_tell_waiting D_answer_of_question D_are_roles D_may_be_chief D_add_person D_give_roles D_is_role D_keep_apart D_is_length_of_steps D_step_at D_steps_of D_may_be_step D_add_procedure D_file_paper D_withdraw_paper D_may_be_last_day D_be_away D_be_back D_is_late D_rise_or_lapse D_pass_one_day D_pass_days D_answer_of_order D_answer_of D_answers (modD_mk l_HOW_MANY_NUMBERS o_HOW_MANY_NUMBERS) n_HOW_MANY_NUMBERS
end Po
namespace Po
open PySem L2 PyProof.Rows
/-! ### from the call to the claim -/
theorem spec_call {P : Program} {w : World} {K : PySem.W.Frag} {mg mb : Str → Option Value} {k : Nat} {fa a : Addr} {fd : FuncData} {s₁ : Shared} {vs : List Value} {ns : List Int}
    (KX : K.In s₁.heap) (hns : s₁.heap.Ns mainGlobals mg) (hb : s₁.heap.Ns builtinsNs mb) (hbb : ∀ x : Str, x ≠ "__name__" → mb x = bootBuiltins x) (hlim : s₁.heap.NoLimit) (hg : s₁.gens = #[])
    (ha : s₁.heap.get? a = some { cls := .type "list", data := .seq vs.toArray }) (hi : IntsAre vs ns) (hl : ns.length ≤ sizeLine) (hr : Room k callerA)
    (F : ∀ base : Heap, FnOk P w K mg base CX0 k fa fd ["calls"] (sp_answers K)) (hbind : ∀ (s : Shared) (u : Value), BindsTo s fd ⟨[u], []⟩ [("calls", u)]) (hask : PySg50.answers_asked ns = true) :
    codeAny (model P w) callerA (.call (.ref fa) ⟨[.ref a], []⟩) (fun r s' => (∃ (p : Addr) (its : List Value) (n : Nat), r = .ok (.ret (.ref p)) ∧ s'.heap.get? p = some { cls := .type "list", data := .seq its.toArray n } ∧ Vals ((PySg50.answers ns).map V.int) its) ∧
      OldK s₁.heap s'.heap ∧ s'.os = s₁.os ∧ AllBare s'.gens) s₁ := by
  have rv := vals_ints hi
  have lenV := hi.length
  have core : ∀ H : Hp, Only H → InputAt K H a (ns.map V.int) → HOk P w H s₁.heap → (∀ b, H b ≠ none → b = a) → (H a ≠ none → K.lookup a = none) →
      codeAny (model P w) callerA (.call (.ref fa) ⟨[.ref a], []⟩) (fun r s' => (∃ (p : Addr) (its : List Value) (n : Nat), r = .ok (.ret (.ref p)) ∧ s'.heap.get? p = some { cls := .type "list", data := .seq its.toArray n } ∧ Vals ((PySg50.answers ns).map V.int) its) ∧
        OldK s₁.heap s'.heap ∧ s'.os = s₁.os ∧ AllBare s'.gens) s₁ := by
    intro H hO hS hok hA hK
    have base_of : ∀ {b : Addr} {o : Obj}, s₁.heap.get? b = some o → H b = none → (hidT s₁.heap H).get? b = some o := fun e n => hidT_get e n
    have noA : ∀ {b : Addr} {o : Obj} {es : Array DictEntry} {ep : Nat}, s₁.heap.get? b = some o → o.data = .dict es ep → H b = none := fun {b o es ep} e d => by
      cases q : H b with
      | none => rfl
      | some u =>
        have e' : b = a := hA b (by rw [q]; simp)
        subst e'
        rw [ha] at e; cases e
        have d' : Data.seq vs.toArray _ = Data.dict es ep := d
        cases d'
    have nsK : ∀ {b : Addr} {m : Str → Option Value}, s₁.heap.Ns b m → (hidT s₁.heap H).Ns b m := fun {b m} ⟨o, es, ep, e, d, r⟩ => ⟨o, es, ep, base_of e (noA e d), d, r⟩
    have hKb : K.In (hidT s₁.heap H) := fun b o e => base_of (KX b o e) (by
      cases q : H b with
      | none => rfl
      | some u =>
        have e' : b = a := hA b (by rw [q]; simp)
        subst e'
        rw [hK (by rw [q]; simp)] at e; cases e)
    have hM : Mod K mg (hidT s₁.heap H) := ⟨hKb, nsK hns, ⟨mb, nsK hb, hbb⟩, let ⟨mc, h1, h2⟩ := hlim; ⟨mc, nsK h1, h2⟩⟩
    have e0 : Env0 P w K mg (hidT s₁.heap H) callerA [] s₁ H := ⟨rfl, hM, fun b o e => of_hidT e, Nat.le_of_eq (hidT_size _ _), trivial, fun b hb => absurd (show b ∈ ([] : List Addr) from hb) (by simp), hok, .of_eq hg⟩
    refine codeAny_mono ((F _).run callerA [] s₁ H ⟨[.ref a], []⟩ [.ref a] [.ref a] (fun v H' => ∃ p, v = .ref p ∧ H' p = some (.lst ((PySg50.answers ns).map V.int))) (fun _ _ _ => False) hr e0 (hbind s₁ (.ref a)) (.cons rfl .nil) ⟨a, ns, rfl, hS, hask, fun p H' e => ⟨p, rfl, e⟩⟩) fun r s' h => ?_
    cases r with
    | error e => exact False.elim h
    | ok fl =>
      cases fl with
      | next => exact False.elim h
      | brk => exact False.elim h
      | cont => exact False.elim h
      | ret u =>
        obtain ⟨v, H', os, bare, un, hok', r', p, e1, e2⟩ := h
        subst e1
        obtain rfl : u = Value.ref p := r'
        obtain ⟨_, its, n, rvs, hp⟩ := hok' p _ e2
        refine ⟨⟨p, its, n, rfl, hp, rvs⟩, OldK.of_keep fun b o e => ?_, os, bare⟩
        cases q : H b with
        | none => exact un.keep b o e q (by intro z; exact absurd (show b ∈ ([] : List Addr) from z) (by simp)) (by simp)
        | some u =>
          rcases hO b with z | ⟨ob, xs, z⟩
          · rw [q] at z; cases z
          · have z2 := un.frzs b ob _ z
            obtain ⟨e1, _⟩ := hok b _ z
            obtain ⟨e2, _⟩ := hok' b _ z2
            rw [e] at e1; cases e1
            exact e2
  cases hk : K.lookup a with
  | some o =>
    have e := KX a o hk
    rw [ha] at e
    cases e
    refine core (fun _ => none) (fun _ => .inl rfl) (.inr ⟨_, vs.toArray, _, hk, rfl, rfl, rfl, by rw [List.size_toArray, lenV]; exact hl, by simpa using rv⟩) (fun b u z => by have z' : (none : Option HO) = some u := z; cases z') (fun b z => absurd rfl z) fun z => absurd rfl z
  | none =>
    refine core (fun b => if b = a then some (.frz { cls := .type "list", data := .seq vs.toArray } (.lst (ns.map V.int))) else none) (fun b => ?_) (.inl ⟨{ cls := .type "list", data := .seq vs.toArray }, if_pos rfl⟩) (fun b u z => ?_) (fun b z => ?_) fun _ => hk
    · by_cases hb : b = a
      · exact .inr ⟨_, _, if_pos hb⟩
      · exact .inl (if_neg hb)
    · by_cases hb : b = a
      · have z' := (if_pos hb).symm.trans z
        cases z'
        subst hb
        exact ⟨ha, by rw [List.length_map]; exact hl, vs, _, rv, ha⟩
      · have z' := (if_neg hb).symm.trans z
        cases z'
    · by_cases hb : b = a
      · exact hb
      · exact absurd (if_neg hb) z
end Po
namespace Po
open PySem PySem.W PySem.Calls PyProof.Rows
theorem reads_ints {R : WRecords} {cl : Str → Option Addr} {h : Heap} : ∀ {ns : List Int} {its : List Value}, L2.Vals (ns.map L2.V.int) its → ∃ as, ReadsAllW R cl h its (ns.map WData.int) as
  | [], its, v => by
    rw [List.map_nil] at v
    cases v
    exact ⟨_, .nil⟩
  | z :: ns, its, v => by
    rw [List.map_cons] at v
    cases v with
    | cons r t =>
      obtain ⟨as, q⟩ := reads_ints t
      obtain ⟨tk, rfl⟩ := r
      exact ⟨_, .cons (.int z tk) q⟩
theorem said : PySem.Challenge.rw_paperoffice_s01_answers.wellSaid = true := by decide +kernel
theorem spec_walk {q : Program} {loose : List Str} {XP : (Str → Option Value) → Heap → Prop} {YP : World → Heap → Prop} {d : DefRec} {K : Params → Frag} (hdf : d.params.defaults = []) (hY : ∀ (w : World) (h : Heap), YP w h → (K w.params).In h)
    (F : ∀ (w : World) (mg : Str → Option Value) (fa : Addr) (h : Heap), (K w.params).In h → h.Ns mainGlobals mg → mg d.name = some (.ref fa) →
      ∃ fd : FuncData, (∀ (s : Shared) (u : Value), BindsTo s fd ⟨[u], []⟩ [("calls", u)]) ∧ ∀ base : Heap, L2.FnOk PySem.Challenge.rw_paperoffice_s01_answers.prog w (K w.params) mg base L2.CX0 8 fa fd ["calls"] (sp_answers (K w.params))) :
    WalkOS q loose XP YP PySem.Challenge.rw_paperoffice_s01_answers d [] (fun f vs => PySem.call f vs) := by
  intro w s₀ s₁ mg mb G Y fa o pm cd doc dV kV ho hd hcd hD hmg hg args vals as hpre hlay hrd hwl hlo
  obtain ⟨⟨ns, u⟩, hw1, hw2, rfl⟩ := (OpenSpec.pre_iff said _).mp hpre
  have hwl' : WellAll w.params s₁.heap vals [WData.list (ns.map WData.int)] := hwl
  have hask : PySg50.answers_asked ns = true := hw2
  have hlen : ns.length ≤ 30000 := by
    have h1 : (Codec.inList 0 30000 _ ns && _) = true := hw1
    have h2 := (Codec.and_of h1).1
    have h3 := (Codec.and_of (show (Codec.inLen 0 30000 ns && _) = true from h2)).1
    exact (Codec.inNat_iff.mp (show Codec.inNat 0 30000 ns.length = true from h3)).2
  have KX := hY w _ Y
  obtain ⟨fd, hb, hF⟩ := F w mg fa _ KX G.T.g hmg
  cases hwl' with
  | cons w1 w2 =>
    cases w2
    cases w1 with
    | list hobj hall =>
      refine enter_call (codeAny_mono (spec_call KX G.T.g G.T.b G.T.builtins G.T.nolimit hg hobj (Att.ints_of_wellAll ns _ hall) (Nat.le_trans hlen (by decide)) ⟨rfl, by decide, by decide⟩ hF hb hask) fun r s' hq => ?_)
      obtain ⟨⟨p, its, n, rfl, hp, hv⟩, h2, h3, h4⟩ := hq
      obtain ⟨bs, hr⟩ := reads_ints (R := []) (cl := classAt s₀.heap) (h := s'.heap) hv
      have hr2 : ReadsAllW [] (classAt s₀.heap) s'.heap its.toArray.toList ((PySg50.answers ns).map WData.int) bs := by simpa using hr
      exact ⟨.inl ⟨.ref p, .list ((PySg50.answers ns).map WData.int), _, rfl, fun _ => rfl, ReadsW.list hp rfl rfl hr2, (OpenSpec.post_iff said hw1 _ _).mpr rfl, fun h => absurd h Bool.false_ne_true⟩, h2, h3, h4⟩
end Po
theorem PySem.W.Fast.tw14481609328567538688 : True := trivial
theorem PySem.W.Fast.tw14609147603136340064 : True := trivial
theorem PySem.W.Fast.tw18413671985420334432 : True := trivial
theorem PySem.W.Fast.tw3527370144110543296 : True := trivial
theorem PySem.W.Fast.tw12504439834872508896 : True := trivial
theorem PySem.W.Fast.tw146915328831237760 : True := trivial
theorem PySem.W.Fast.tw8580561272452003488 : True := trivial
theorem PySem.W.Fast.tw17863354905047433920 : True := trivial
theorem PySem.W.Fast.tw18351785959602560768 : True := trivial
theorem PySem.W.Fast.tw2840285329729153856 : True := trivial
theorem PySem.W.Fast.tw12896257718435704736 : True := trivial
theorem PySem.W.Fast.tw17533861788836205536 : True := trivial
theorem PySem.W.Fast.tw17781448860298419265 : True := trivial
theorem PySem.W.Fast.tw13493631084985650305 : True := trivial
theorem PySem.W.Fast.tw151700706587348193 : True := trivial
theorem PySem.W.Fast.tw4801394872734207361 : True := trivial
theorem PySem.W.Fast.tw7479635571355211233 : True := trivial
theorem PySem.W.Fast.tw12899278139949398593 : True := trivial
theorem PySem.W.Fast.tw12898061546699231905 : True := trivial
theorem PySem.W.Fast.tw5775445879082325729 : True := trivial
theorem PySem.W.Fast.tw8560024184185649985 : True := trivial
theorem PySem.W.Fast.tw16967150422373419841 : True := trivial
theorem PySem.W.Fast.tw17710465611630033825 : True := trivial
theorem PySem.W.Fast.tw1283895232993582114 : True := trivial
theorem PySem.W.Fast.tw9973126682223186018 : True := trivial
theorem PySem.W.Fast.tw14445036814739283202 : True := trivial
theorem PySem.W.Fast.tw16590109423056017698 : True := trivial
theorem PySem.W.Fast.tw14451070591377509794 : True := trivial
theorem PySem.W.Fast.tw145281050376292802 : True := trivial
theorem PySem.W.Fast.tw14621855857786767010 : True := trivial
theorem PySem.W.Fast.tw6423567467542004514 : True := trivial
theorem PySem.W.Fast.tw7396552873967773827 : True := trivial
theorem PySem.W.Fast.tw3293071174003334307 : True := trivial
theorem PySem.W.Fast.tw1693859485989793027 : True := trivial
theorem PySem.W.Fast.tw17670966139464195395 : True := trivial
theorem PySem.W.Fast.tw14508414265853066595 : True := trivial
theorem PySem.W.Fast.tw2101681427201477219 : True := trivial
theorem PySem.W.Fast.tw17993832953452017283 : True := trivial
theorem PySem.W.Fast.tw366002203479268003 : True := trivial
theorem PySem.W.Fast.tw15316508449093493475 : True := trivial
theorem PySem.W.Fast.tw2275027109718446819 : True := trivial
theorem PySem.W.Fast.tw12909845206436203267 : True := trivial
theorem PySem.W.Fast.tw964144448067231491 : True := trivial
theorem PySem.W.Fast.tw1306991439651002307 : True := trivial
theorem PySem.W.Fast.tw2038084092050403492 : True := trivial
theorem PySem.W.Fast.tw15873918427262968004 : True := trivial
theorem PySem.W.Fast.tw17408855406303337700 : True := trivial
theorem PySem.W.Fast.tw9032797380289791396 : True := trivial
theorem PySem.W.Fast.tw17430050158412674500 : True := trivial
theorem PySem.W.Fast.tw2729754404407283332 : True := trivial
theorem PySem.W.Fast.tw10705511136406724260 : True := trivial
theorem PySem.W.Fast.tw4797889256175310724 : True := trivial
theorem PySem.W.Fast.tw13319209749318064036 : True := trivial
theorem PySem.W.Fast.tw636233881563164644 : True := trivial
theorem PySem.W.Fast.tw11595370417275648197 : True := trivial
theorem PySem.W.Fast.tw17969224168393637061 : True := trivial
theorem PySem.W.Fast.tw17281839901453827397 : True := trivial
theorem PySem.W.Fast.tw2251687981538665157 : True := trivial
theorem PySem.W.Fast.tw17862729532668963749 : True := trivial
theorem PySem.W.Fast.tw14534604385485495205 : True := trivial
theorem PySem.W.Fast.tw15912625510673597413 : True := trivial
theorem PySem.W.Fast.tw11869295964434833574 : True := trivial
theorem PySem.W.Fast.tw384724478517967142 : True := trivial
theorem PySem.W.Fast.tw11638070362498973190 : True := trivial
theorem PySem.W.Fast.tw9994959218336214566 : True := trivial
theorem PySem.W.Fast.tw5965688442006513414 : True := trivial
theorem PySem.W.Fast.tw8245140412432839590 : True := trivial
theorem PySem.W.Fast.tw4635010082033527911 : True := trivial
theorem PySem.W.Fast.tw3048009879529396391 : True := trivial
theorem PySem.W.Fast.tw1427283861426039079 : True := trivial
theorem PySem.W.Fast.tw7592881214096470407 : True := trivial
theorem PySem.W.Fast.tw3732023435171187143 : True := trivial
theorem PySem.W.Fast.tw12754842167617512903 : True := trivial
theorem PySem.W.Fast.tw5306350834840926759 : True := trivial
theorem PySem.W.Fast.tw12034473216596302407 : True := trivial
theorem PySem.W.Fast.tw14349687587023507143 : True := trivial
theorem PySem.W.Fast.tw4919799809146222567 : True := trivial
theorem PySem.W.Fast.tw10495507928270691400 : True := trivial
theorem PySem.W.Fast.tw10401234694944237768 : True := trivial
theorem PySem.W.Fast.tw5168999174443304264 : True := trivial
theorem PySem.W.Fast.tw14449138842070252904 : True := trivial
theorem PySem.W.Fast.tw10687253139387398536 : True := trivial
theorem PySem.W.Fast.tw13627956370074349128 : True := trivial
theorem PySem.W.Fast.tw3710530095369229032 : True := trivial
theorem PySem.W.Fast.tw15766616393723033320 : True := trivial
theorem PySem.W.Fast.tw16047436594434443080 : True := trivial
theorem PySem.W.Fast.tw17106232437204083592 : True := trivial
theorem PySem.W.Fast.tw18191977059281687657 : True := trivial
theorem PySem.W.Fast.tw290796282434371849 : True := trivial
theorem PySem.W.Fast.tw11903713079675693353 : True := trivial
theorem PySem.W.Fast.tw1028565553303552329 : True := trivial
theorem PySem.W.Fast.tw5745889119336391049 : True := trivial
theorem PySem.W.Fast.tw18270513805958499785 : True := trivial
theorem PySem.W.Fast.tw17591953938244357609 : True := trivial
theorem PySem.W.Fast.tw9183352604631596521 : True := trivial
theorem PySem.W.Fast.tw17663316369670272521 : True := trivial
theorem PySem.W.Fast.tw1005570592892520009 : True := trivial
theorem PySem.W.Fast.tw6821076701141272489 : True := trivial
theorem PySem.W.Fast.tw4767977309035353098 : True := trivial
theorem PySem.W.Fast.tw9967836809060243466 : True := trivial
theorem PySem.W.Fast.tw12385484059799646442 : True := trivial
theorem PySem.W.Fast.tw15293524489805287786 : True := trivial
theorem PySem.W.Fast.tw6340783184809020842 : True := trivial
theorem PySem.W.Fast.tw1664349754243841450 : True := trivial
theorem PySem.W.Fast.tw331318655344256458 : True := trivial
theorem PySem.W.Fast.tw2147772651729892938 : True := trivial
theorem PySem.W.Fast.tw160275217776137962 : True := trivial
theorem PySem.W.Fast.tw13330671513012621483 : True := trivial
theorem PySem.W.Fast.tw3881351862877702379 : True := trivial
theorem PySem.W.Fast.tw11966232731325136139 : True := trivial
theorem PySem.W.Fast.tw18329151675366018315 : True := trivial
theorem PySem.W.Fast.tw9171188246389014923 : True := trivial
theorem PySem.W.Fast.tw12799593062201937323 : True := trivial
theorem PySem.W.Fast.tw5291729468507518443 : True := trivial
theorem PySem.W.Fast.tw16092495108297620075 : True := trivial
theorem PySem.W.Fast.tw3834990908765815563 : True := trivial
theorem PySem.W.Fast.tw8968255500347485995 : True := trivial
theorem PySem.W.Fast.tw16239180033213981740 : True := trivial
theorem PySem.W.Fast.tw2438894008623019308 : True := trivial
theorem PySem.W.Fast.tw11836244999031489836 : True := trivial
theorem PySem.W.Fast.tw15250887047851772204 : True := trivial
theorem PySem.W.Fast.tw12162986408147110284 : True := trivial
theorem PySem.W.Fast.tw4504553281574075788 : True := trivial
theorem PySem.W.Fast.tw9486177129655197100 : True := trivial
theorem PySem.W.Fast.tw15792902908010075660 : True := trivial
theorem PySem.W.Fast.tw23776031342051980 : True := trivial
theorem PySem.W.Fast.tw7901423676796937900 : True := trivial
theorem PySem.W.Fast.tw9295567975082032844 : True := trivial
theorem PySem.W.Fast.tw13874268400316656364 : True := trivial
theorem PySem.W.Fast.tw6309181647130889996 : True := trivial
theorem PySem.W.Fast.tw1679049047860233004 : True := trivial
theorem PySem.W.Fast.tw12662086135152034829 : True := trivial
theorem PySem.W.Fast.tw431956197204880461 : True := trivial
theorem PySem.W.Fast.tw8688796247135938733 : True := trivial
theorem PySem.W.Fast.tw6591168022879192301 : True := trivial
theorem PySem.W.Fast.tw8491173869370666445 : True := trivial
theorem PySem.W.Fast.tw8232513635085468141 : True := trivial
theorem PySem.W.Fast.tw13260072210128073293 : True := trivial
theorem PySem.W.Fast.tw6123240548139027021 : True := trivial
theorem PySem.W.Fast.tw18375406942711481133 : True := trivial
theorem PySem.W.Fast.tw12833899941226596398 : True := trivial
theorem PySem.W.Fast.tw16817008563403176014 : True := trivial
theorem PySem.W.Fast.tw17723562633934456942 : True := trivial
theorem PySem.W.Fast.tw10381608389408556142 : True := trivial
theorem PySem.W.Fast.tw3671707433812649134 : True := trivial
theorem PySem.W.Fast.tw6787231100272418062 : True := trivial
theorem PySem.W.Fast.tw4469173601947690286 : True := trivial
theorem PySem.W.Fast.tw5550998530176582990 : True := trivial
theorem PySem.W.Fast.tw9227974422631072110 : True := trivial
theorem PySem.W.Fast.tw9989939271548634574 : True := trivial
theorem PySem.W.Fast.tw11552118081070860910 : True := trivial
theorem PySem.W.Fast.tw12574324253527252654 : True := trivial
theorem PySem.W.Fast.tw7533235573011299022 : True := trivial
theorem PySem.W.Fast.tw11919431131427745807 : True := trivial
theorem PySem.W.Fast.tw4871092475435991151 : True := trivial
theorem PySem.W.Fast.tw7886345369919426959 : True := trivial
theorem PySem.W.Fast.tw737315800092595695 : True := trivial
theorem PySem.W.Fast.tw5699235261443905071 : True := trivial
theorem PySem.W.Fast.tw11804214755143306959 : True := trivial
theorem PySem.W.Fast.tw9354122735845071 : True := trivial
theorem PySem.W.Fast.tw891750598659432175 : True := trivial
theorem PySem.W.Fast.tw18399549120991901583 : True := trivial
theorem PySem.W.Fast.tw13620964412028158000 : True := trivial
theorem PySem.W.Fast.tw12731669559250367568 : True := trivial
theorem PySem.W.Fast.tw14227700754539946320 : True := trivial
theorem PySem.W.Fast.tw18140092667596167568 : True := trivial
theorem PySem.W.Fast.tw11050452998053714384 : True := trivial
theorem PySem.W.Fast.tw2106122492659432912 : True := trivial
theorem PySem.W.Fast.tw17305569955055732272 : True := trivial
theorem PySem.W.Fast.tw17697237849943263792 : True := trivial
theorem PySem.W.Fast.tw8656079294344603280 : True := trivial
theorem PySem.W.Fast.tw15779520122662723376 : True := trivial
theorem PySem.W.Fast.tw16300593724469297072 : True := trivial
theorem PySem.W.Fast.tw12108628317772576817 : True := trivial
theorem PySem.W.Fast.tw1938769868291975249 : True := trivial
theorem PySem.W.Fast.tw13114937997611003985 : True := trivial
theorem PySem.W.Fast.tw15394900525445846161 : True := trivial
theorem PySem.W.Fast.tw4731859504703147185 : True := trivial
theorem PySem.W.Fast.tw8726138564199621809 : True := trivial
theorem PySem.W.Fast.tw156329441879914673 : True := trivial
theorem PySem.W.Fast.tw15497244840275849425 : True := trivial
theorem PySem.W.Fast.tw5233935107485944049 : True := trivial
theorem PySem.W.Fast.tw4064914184372314353 : True := trivial
theorem PySem.W.Fast.tw7813293174491122033 : True := trivial
theorem PySem.W.Fast.tw13587474348243314161 : True := trivial
theorem PySem.W.Fast.tw3716781767561564753 : True := trivial
theorem PySem.W.Fast.tw15270104674226945713 : True := trivial
theorem PySem.W.Fast.tw7093263934052711121 : True := trivial
theorem PySem.W.Fast.tw4877455817090180817 : True := trivial
theorem PySem.W.Fast.tw6746619259357552465 : True := trivial
theorem PySem.W.Fast.tw5085917369767913297 : True := trivial
theorem PySem.W.Fast.tw3932266680527317841 : True := trivial
theorem PySem.W.Fast.tw2090885523335732081 : True := trivial
theorem PySem.W.Fast.tw9376900181845686129 : True := trivial
theorem PySem.W.Fast.tw16347673218735649713 : True := trivial
theorem PySem.W.Fast.tw8582382204770266065 : True := trivial
theorem PySem.W.Fast.tw3048729824711664690 : True := trivial
theorem PySem.W.Fast.tw5234578082724684914 : True := trivial
theorem PySem.W.Fast.tw11454819590294742226 : True := trivial
theorem PySem.W.Fast.tw18426468094005642482 : True := trivial
theorem PySem.W.Fast.tw10761238152341248274 : True := trivial
theorem PySem.W.Fast.tw7712333113103671634 : True := trivial
theorem PySem.W.Fast.tw15882150231439552018 : True := trivial
theorem PySem.W.Fast.tw15013164994674003538 : True := trivial
theorem PySem.W.Fast.tw4622215209572018898 : True := trivial
theorem PySem.W.Fast.tw10209268510483796722 : True := trivial
theorem PySem.W.Fast.tw15501776015866667858 : True := trivial
theorem PySem.W.Fast.tw8010197810260116338 : True := trivial
theorem PySem.W.Fast.tw1995075895133470642 : True := trivial
theorem PySem.W.Fast.tw9714735369672096819 : True := trivial
theorem PySem.W.Fast.tw2593303620188244083 : True := trivial
theorem PySem.W.Fast.tw14150361120938470547 : True := trivial
theorem PySem.W.Fast.tw9664351529126060211 : True := trivial
theorem PySem.W.Fast.tw5713274422378161331 : True := trivial
theorem PySem.W.Fast.tw1123074372516543827 : True := trivial
theorem PySem.W.Fast.tw11784378092467362355 : True := trivial
theorem PySem.W.Fast.tw2829822871177605843 : True := trivial
theorem PySem.W.Fast.tw8224705750007146195 : True := trivial
theorem PySem.W.Fast.tw1428316976733288147 : True := trivial
theorem PySem.W.Fast.tw12445403580414883795 : True := trivial
theorem PySem.W.Fast.tw17937360223618336788 : True := trivial
theorem PySem.W.Fast.tw7908483528926149684 : True := trivial
theorem PySem.W.Fast.tw12793319430674741492 : True := trivial
theorem PySem.W.Fast.tw517023903870150964 : True := trivial
theorem PySem.W.Fast.tw15511519758722305364 : True := trivial
theorem PySem.W.Fast.tw411244108715700660 : True := trivial
theorem PySem.W.Fast.tw2477863030134559444 : True := trivial
theorem PySem.W.Fast.tw7559167875884515060 : True := trivial
theorem PySem.W.Fast.tw7852750911393775540 : True := trivial
theorem PySem.W.Fast.tw15054024108910236789 : True := trivial
theorem PySem.W.Fast.tw516538564632798741 : True := trivial
theorem PySem.W.Fast.tw2536247811227493941 : True := trivial
theorem PySem.W.Fast.tw14752588369243270773 : True := trivial
theorem PySem.W.Fast.tw8341885476522021717 : True := trivial
theorem PySem.W.Fast.tw6098744244530296789 : True := trivial
theorem PySem.W.Fast.tw50734963054387189 : True := trivial
theorem PySem.W.Fast.tw15125002751820015670 : True := trivial
theorem PySem.W.Fast.tw13233604056621115574 : True := trivial
theorem PySem.W.Fast.tw134082829232456918 : True := trivial
theorem PySem.W.Fast.tw17777820113873042774 : True := trivial
theorem PySem.W.Fast.tw17601435076468141590 : True := trivial
theorem PySem.W.Fast.tw923208532510284342 : True := trivial
theorem PySem.W.Fast.tw8724513780846831190 : True := trivial
theorem PySem.W.Fast.tw149915605063677590 : True := trivial
theorem PySem.W.Fast.tw5300249305809698582 : True := trivial
theorem PySem.W.Fast.tw12769410789621733142 : True := trivial
theorem PySem.W.Fast.tw11675018955899571126 : True := trivial
theorem PySem.W.Fast.tw15631754936141855799 : True := trivial
theorem PySem.W.Fast.tw17850766027901978711 : True := trivial
theorem PySem.W.Fast.tw10902230505368122487 : True := trivial
theorem PySem.W.Fast.tw3215730831113832695 : True := trivial
theorem PySem.W.Fast.tw14206672351280061879 : True := trivial
theorem PySem.W.Fast.tw4578871202843360727 : True := trivial
theorem PySem.W.Fast.tw6620146813657183735 : True := trivial
theorem PySem.W.Fast.tw11320412181281719863 : True := trivial
theorem PySem.W.Fast.tw15353443432209216119 : True := trivial
theorem PySem.W.Fast.tw14844648593388540599 : True := trivial
theorem PySem.W.Fast.tw11990443825228738295 : True := trivial
theorem PySem.W.Fast.tw6866850622905316151 : True := trivial
theorem PySem.W.Fast.tw17410739654811287383 : True := trivial
theorem PySem.W.Fast.tw12629833016936660855 : True := trivial
theorem PySem.W.Fast.tw1275246039822136440 : True := trivial
theorem PySem.W.Fast.tw10304966503329379512 : True := trivial
theorem PySem.W.Fast.tw2836984520337281304 : True := trivial
theorem PySem.W.Fast.tw10929468329659970872 : True := trivial
theorem PySem.W.Fast.tw10399605270140098936 : True := trivial
theorem PySem.W.Fast.tw4853749492401126808 : True := trivial
theorem PySem.W.Fast.tw10178266095202427448 : True := trivial
theorem PySem.W.Fast.tw14039751497520649784 : True := trivial
theorem PySem.W.Fast.tw6018868833705364184 : True := trivial
theorem PySem.W.Fast.tw12128591823250164472 : True := trivial
theorem PySem.W.Fast.tw275687597313505080 : True := trivial
theorem PySem.W.Fast.tw16162348790537767768 : True := trivial
theorem PySem.W.Fast.tw2038574986474665880 : True := trivial
theorem PySem.W.Fast.tw5764079884936265624 : True := trivial
theorem PySem.W.Fast.tw10703431370928991160 : True := trivial
theorem PySem.W.Fast.tw4614134256127666297 : True := trivial
theorem PySem.W.Fast.tw2078526201349054617 : True := trivial
theorem PySem.W.Fast.tw6568253913666490841 : True := trivial
theorem PySem.W.Fast.tw11023526728222077433 : True := trivial
theorem PySem.W.Fast.tw2509264900109842073 : True := trivial
theorem PySem.W.Fast.tw2077905720843240121 : True := trivial
theorem PySem.W.Fast.tw6978630898983636729 : True := trivial
theorem PySem.W.Fast.tw8204551585166584601 : True := trivial
theorem PySem.W.Fast.tw16102099913372719993 : True := trivial
theorem PySem.W.Fast.tw12211169013065711577 : True := trivial
theorem PySem.W.Fast.tw3908450519162820601 : True := trivial
theorem PySem.W.Fast.tw2156141778943561818 : True := trivial
theorem PySem.W.Fast.tw11047385667490543866 : True := trivial
theorem PySem.W.Fast.tw2320668648178820378 : True := trivial
theorem PySem.W.Fast.tw11047079825021059386 : True := trivial
theorem PySem.W.Fast.tw3720635855966867898 : True := trivial
theorem PySem.W.Fast.tw11509552140185009690 : True := trivial
theorem PySem.W.Fast.tw16302501534322306618 : True := trivial
theorem PySem.W.Fast.tw18391739037532439290 : True := trivial
theorem PySem.W.Fast.tw4102841702324918170 : True := trivial
theorem PySem.W.Fast.tw15162326133053850747 : True := trivial
theorem PySem.W.Fast.tw125519638123442395 : True := trivial
theorem PySem.W.Fast.tw13485746747765449979 : True := trivial
theorem PySem.W.Fast.tw13727733132765037979 : True := trivial
theorem PySem.W.Fast.tw4924758945261650747 : True := trivial
theorem PySem.W.Fast.tw11658125693168784251 : True := trivial
theorem PySem.W.Fast.tw16442914326569407580 : True := trivial
theorem PySem.W.Fast.tw1608208614302307452 : True := trivial
theorem PySem.W.Fast.tw14558309970869088540 : True := trivial
theorem PySem.W.Fast.tw4691871852401157404 : True := trivial
theorem PySem.W.Fast.tw9167284257832208700 : True := trivial
theorem PySem.W.Fast.tw8868510026392215964 : True := trivial
theorem PySem.W.Fast.tw5902739597022623164 : True := trivial
theorem PySem.W.Fast.tw13456884394301085276 : True := trivial
theorem PySem.W.Fast.tw1688930249125792540 : True := trivial
theorem PySem.W.Fast.tw9557853361971945308 : True := trivial
theorem PySem.W.Fast.tw11989811801176344444 : True := trivial
theorem PySem.W.Fast.tw13939699584570018716 : True := trivial
theorem PySem.W.Fast.tw2909313117381857276 : True := trivial
theorem PySem.W.Fast.tw10927975394770572349 : True := trivial
theorem PySem.W.Fast.tw17079098095852050493 : True := trivial
theorem PySem.W.Fast.tw9905496679614588989 : True := trivial
theorem PySem.W.Fast.tw551153027239466077 : True := trivial
theorem PySem.W.Fast.tw4883552298846895261 : True := trivial
theorem PySem.W.Fast.tw11751425589508503741 : True := trivial
theorem PySem.W.Fast.tw3813826295304001725 : True := trivial
theorem PySem.W.Fast.tw28469099830868189 : True := trivial
theorem PySem.W.Fast.tw10731588533213003197 : True := trivial
theorem PySem.W.Fast.tw16275542930316583421 : True := trivial
theorem PySem.W.Fast.tw13044793776620324477 : True := trivial
theorem PySem.W.Fast.tw10796253048275683965 : True := trivial
theorem PySem.W.Fast.tw5313296224428082845 : True := trivial
theorem PySem.W.Fast.tw12239230700422512317 : True := trivial
theorem PySem.W.Fast.tw6061276363172858557 : True := trivial
theorem PySem.W.Fast.tw17306478451774740157 : True := trivial
theorem PySem.W.Fast.tw13974046481936626429 : True := trivial
theorem PySem.W.Fast.tw17650513032526574557 : True := trivial
theorem PySem.W.Fast.tw9595816448384153630 : True := trivial
theorem PySem.W.Fast.tw31281155848389662 : True := trivial
theorem PySem.W.Fast.tw8188747043347956126 : True := trivial
theorem PySem.W.Fast.tw11695795966599918238 : True := trivial
theorem PySem.W.Fast.tw15636139435995655838 : True := trivial
theorem PySem.W.Fast.tw16016452362303204094 : True := trivial
theorem PySem.W.Fast.tw6937498215428362142 : True := trivial
theorem PySem.W.Fast.tw15943338095904887710 : True := trivial
theorem PySem.W.Fast.tw6259770672430404510 : True := trivial
theorem PySem.W.Fast.tw16362157929276682238 : True := trivial
theorem PySem.W.Fast.tw6774277344479986686 : True := trivial
theorem PySem.W.Fast.tw940725438934125727 : True := trivial
theorem PySem.W.Fast.tw16400703530767939903 : True := trivial
theorem PySem.W.Fast.tw10323727011478692191 : True := trivial
theorem PySem.W.Fast.tw13597096394702441951 : True := trivial
theorem PySem.W.Fast.tw10326583300060840511 : True := trivial
theorem PySem.W.Fast.tw6652799066245749343 : True := trivial
theorem PySem.W.Fast.tw6504885403804219039 : True := trivial
theorem PySem.W.Fast.tw8627704055635519167 : True := trivial
theorem PySem.W.Fast.tw18078357332008385407 : True := trivial
theorem PySem.W.Fast.tw5701215715410973599 : True := trivial
theorem PySem.W.Fast.tw76912216080947621 : True := trivial
open PySem PySem.W PyProof.Rows
set_option maxRecDepth 100000 in
set_option maxHeartbeats 0 in
theorem PySem.Challenge.cw_paperoffice_s01_answers_holds : PySem.Challenge.rw_paperoffice_s01_answers.Holds := by
  w_on; k_headS; (case hw => exact ⟨[.list []], by decide +kernel, by decide +kernel⟩)
  k_fillS
  refine Po.spec_walk rfl (fun w h Y => PySem.W.kIn_of Y) ?F
  case F =>
    intro w mg fa h KX G hmg
    have D_end_of_numbers : Po.Def (L2.KOf KX) "end_of_numbers" Po.s_end_of_numbers := by
      dsimp only [L2.KOf]
      refine' Po.def_mk ?a ?l ?c ?k
      (case a => k_is)
      (case l => k_is)
      (case c => k_is)
      (case k => k_is)
    have D_begin_of_numbers : Po.Def (L2.KOf KX) "begin_of_numbers" Po.s_begin_of_numbers := by
      dsimp only [L2.KOf]
      refine' Po.def_mk ?a ?l ?c ?k
      (case a => k_is)
      (case l => k_is)
      (case c => k_is)
      (case k => k_is)
    have D_has : Po.Def (L2.KOf KX) "has" Po.s_has := by
      dsimp only [L2.KOf]
      refine' Po.def_mk ?a ?l ?c ?k
      (case a => k_is)
      (case l => k_is)
      (case c => k_is)
      (case k => k_is)
    have D_current_step : Po.Def (L2.KOf KX) "current_step" Po.s_current_step := by
      dsimp only [L2.KOf]
      refine' Po.def_mk ?a ?l ?c ?k
      (case a => k_is)
      (case l => k_is)
      (case c => k_is)
      (case k => k_is)
    have D_stands_for : Po.Def (L2.KOf KX) "stands_for" Po.s_stands_for := by
      dsimp only [L2.KOf]
      refine' Po.def_mk ?a ?l ?c ?k
      (case a => k_is)
      (case l => k_is)
      (case c => k_is)
      (case k => k_is)
    have D_holds : Po.Def (L2.KOf KX) "holds" Po.s_holds := by
      dsimp only [L2.KOf]
      refine' Po.def_mk ?a ?l ?c ?k
      (case a => k_is)
      (case l => k_is)
      (case c => k_is)
      (case k => k_is)
    have D_is_within_levels_above : Po.Def (L2.KOf KX) "is_within_levels_above" Po.s_is_within_levels_above := by
      dsimp only [L2.KOf]
      refine' Po.def_mk ?a ?l ?c ?k
      (case a => k_is)
      (case l => k_is)
      (case c => k_is)
      (case k => k_is)
    have D_is_entitled : Po.Def (L2.KOf KX) "is_entitled" Po.s_is_entitled := by
      dsimp only [L2.KOf]
      refine' Po.def_mk ?a ?l ?c ?k
      (case a => k_is)
      (case l => k_is)
      (case c => k_is)
      (case k => k_is)
    have D_has_part_in : Po.Def (L2.KOf KX) "has_part_in" Po.s_has_part_in := by
      dsimp only [L2.KOf]
      refine' Po.def_mk ?a ?l ?c ?k
      (case a => k_is)
      (case l => k_is)
      (case c => k_is)
      (case k => k_is)
    have D_acted_in_this_round : Po.Def (L2.KOf KX) "acted_in_this_round" Po.s_acted_in_this_round := by
      dsimp only [L2.KOf]
      refine' Po.def_mk ?a ?l ?c ?k
      (case a => k_is)
      (case l => k_is)
      (case c => k_is)
      (case k => k_is)
    have D_acted_in_a_role_kept_apart : Po.Def (L2.KOf KX) "acted_in_a_role_kept_apart" Po.s_acted_in_a_role_kept_apart := by
      dsimp only [L2.KOf]
      refine' Po.def_mk ?a ?l ?c ?k
      (case a => k_is)
      (case l => k_is)
      (case c => k_is)
      (case k => k_is)
    have D_refusal_to_act : Po.Def (L2.KOf KX) "refusal_to_act" Po.s_refusal_to_act := by
      dsimp only [L2.KOf]
      refine' Po.def_mk ?a ?l ?c ?k
      (case a => k_is)
      (case l => k_is)
      (case c => k_is)
      (case k => k_is)
    have D_may_act : Po.Def (L2.KOf KX) "may_act" Po.s_may_act := by
      dsimp only [L2.KOf]
      refine' Po.def_mk ?a ?l ?c ?k
      (case a => k_is)
      (case l => k_is)
      (case c => k_is)
      (case k => k_is)
    have D_note_act : Po.Def (L2.KOf KX) "note_act" Po.s_note_act := by
      dsimp only [L2.KOf]
      refine' Po.def_mk ?a ?l ?c ?k
      (case a => k_is)
      (case l => k_is)
      (case c => k_is)
      (case k => k_is)
    have D_signatures_in_this_round : Po.Def (L2.KOf KX) "signatures_in_this_round" Po.s_signatures_in_this_round := by
      dsimp only [L2.KOf]
      refine' Po.def_mk ?a ?l ?c ?k
      (case a => k_is)
      (case l => k_is)
      (case c => k_is)
      (case k => k_is)
    have D_due_from_today : Po.Def (L2.KOf KX) "due_from_today" Po.s_due_from_today := by
      dsimp only [L2.KOf]
      refine' Po.def_mk ?a ?l ?c ?k
      (case a => k_is)
      (case l => k_is)
      (case c => k_is)
      (case k => k_is)
    have D_come_to : Po.Def (L2.KOf KX) "come_to" Po.s_come_to := by
      dsimp only [L2.KOf]
      refine' Po.def_mk ?a ?l ?c ?k
      (case a => k_is)
      (case l => k_is)
      (case c => k_is)
      (case k => k_is)
    have D_go_on : Po.Def (L2.KOf KX) "go_on" Po.s_go_on := by
      dsimp only [L2.KOf]
      refine' Po.def_mk ?a ?l ?c ?k
      (case a => k_is)
      (case l => k_is)
      (case c => k_is)
      (case k => k_is)
    have D_sign_paper : Po.Def (L2.KOf KX) "sign_paper" Po.s_sign_paper := by
      dsimp only [L2.KOf]
      refine' Po.def_mk ?a ?l ?c ?k
      (case a => k_is)
      (case l => k_is)
      (case c => k_is)
      (case k => k_is)
    have D_go_back : Po.Def (L2.KOf KX) "go_back" Po.s_go_back := by
      dsimp only [L2.KOf]
      refine' Po.def_mk ?a ?l ?c ?k
      (case a => k_is)
      (case l => k_is)
      (case c => k_is)
      (case k => k_is)
    have D_refuse_paper : Po.Def (L2.KOf KX) "refuse_paper" Po.s_refuse_paper := by
      dsimp only [L2.KOf]
      refine' Po.def_mk ?a ?l ?c ?k
      (case a => k_is)
      (case l => k_is)
      (case c => k_is)
      (case k => k_is)
    have D_answer_of_act : Po.Def (L2.KOf KX) "answer_of_act" Po.s_answer_of_act := by
      dsimp only [L2.KOf]
      refine' Po.def_mk ?a ?l ?c ?k
      (case a => k_is)
      (case l => k_is)
      (case c => k_is)
      (case k => k_is)
    have D_tell_paper : Po.Def (L2.KOf KX) "tell_paper" Po.s_tell_paper := by
      dsimp only [L2.KOf]
      refine' Po.def_mk ?a ?l ?c ?k
      (case a => k_is)
      (case l => k_is)
      (case c => k_is)
      (case k => k_is)
    have D_tell_acts : Po.Def (L2.KOf KX) "tell_acts" Po.s_tell_acts := by
      dsimp only [L2.KOf]
      refine' Po.def_mk ?a ?l ?c ?k
      (case a => k_is)
      (case l => k_is)
      (case c => k_is)
      (case k => k_is)
    have D_with_count : Po.Def (L2.KOf KX) "with_count" Po.s_with_count := by
      dsimp only [L2.KOf]
      refine' Po.def_mk ?a ?l ?c ?k
      (case a => k_is)
      (case l => k_is)
      (case c => k_is)
      (case k => k_is)
    have D_may_act_for_themselves : Po.Def (L2.KOf KX) "may_act_for_themselves" Po.s_may_act_for_themselves := by
      dsimp only [L2.KOf]
      refine' Po.def_mk ?a ?l ?c ?k
      (case a => k_is)
      (case l => k_is)
      (case c => k_is)
      (case k => k_is)
    have D_tell_who : Po.Def (L2.KOf KX) "tell_who" Po.s_tell_who := by
      dsimp only [L2.KOf]
      refine' Po.def_mk ?a ?l ?c ?k
      (case a => k_is)
      (case l => k_is)
      (case c => k_is)
      (case k => k_is)
    have D_tell_waiting : Po.Def (L2.KOf KX) "tell_waiting" Po.s_tell_waiting := by
      dsimp only [L2.KOf]
      refine' Po.def_mk ?a ?l ?c ?k
      (case a => k_is)
      (case l => k_is)
      (case c => k_is)
      (case k => k_is)
    have D_answer_of_question : Po.Def (L2.KOf KX) "answer_of_question" Po.s_answer_of_question := by
      dsimp only [L2.KOf]
      refine' Po.def_mk ?a ?l ?c ?k
      (case a => k_is)
      (case l => k_is)
      (case c => k_is)
      (case k => k_is)
    have D_are_roles : Po.Def (L2.KOf KX) "are_roles" Po.s_are_roles := by
      dsimp only [L2.KOf]
      refine' Po.def_mk ?a ?l ?c ?k
      (case a => k_is)
      (case l => k_is)
      (case c => k_is)
      (case k => k_is)
    have D_may_be_chief : Po.Def (L2.KOf KX) "may_be_chief" Po.s_may_be_chief := by
      dsimp only [L2.KOf]
      refine' Po.def_mk ?a ?l ?c ?k
      (case a => k_is)
      (case l => k_is)
      (case c => k_is)
      (case k => k_is)
    have D_add_person : Po.Def (L2.KOf KX) "add_person" Po.s_add_person := by
      dsimp only [L2.KOf]
      refine' Po.def_mk ?a ?l ?c ?k
      (case a => k_is)
      (case l => k_is)
      (case c => k_is)
      (case k => k_is)
    have D_give_roles : Po.Def (L2.KOf KX) "give_roles" Po.s_give_roles := by
      dsimp only [L2.KOf]
      refine' Po.def_mk ?a ?l ?c ?k
      (case a => k_is)
      (case l => k_is)
      (case c => k_is)
      (case k => k_is)
    have D_is_role : Po.Def (L2.KOf KX) "is_role" Po.s_is_role := by
      dsimp only [L2.KOf]
      refine' Po.def_mk ?a ?l ?c ?k
      (case a => k_is)
      (case l => k_is)
      (case c => k_is)
      (case k => k_is)
    have D_keep_apart : Po.Def (L2.KOf KX) "keep_apart" Po.s_keep_apart := by
      dsimp only [L2.KOf]
      refine' Po.def_mk ?a ?l ?c ?k
      (case a => k_is)
      (case l => k_is)
      (case c => k_is)
      (case k => k_is)
    have D_is_length_of_steps : Po.Def (L2.KOf KX) "is_length_of_steps" Po.s_is_length_of_steps := by
      dsimp only [L2.KOf]
      refine' Po.def_mk ?a ?l ?c ?k
      (case a => k_is)
      (case l => k_is)
      (case c => k_is)
      (case k => k_is)
    have D_step_at : Po.Def (L2.KOf KX) "step_at" Po.s_step_at := by
      dsimp only [L2.KOf]
      refine' Po.def_mk ?a ?l ?c ?k
      (case a => k_is)
      (case l => k_is)
      (case c => k_is)
      (case k => k_is)
    have D_steps_of : Po.Def (L2.KOf KX) "steps_of" Po.s_steps_of := by
      dsimp only [L2.KOf]
      refine' Po.def_mk ?a ?l ?c ?k
      (case a => k_is)
      (case l => k_is)
      (case c => k_is)
      (case k => k_is)
    have D_may_be_step : Po.Def (L2.KOf KX) "may_be_step" Po.s_may_be_step := by
      dsimp only [L2.KOf]
      refine' Po.def_mk ?a ?l ?c ?k
      (case a => k_is)
      (case l => k_is)
      (case c => k_is)
      (case k => k_is)
    have D_add_procedure : Po.Def (L2.KOf KX) "add_procedure" Po.s_add_procedure := by
      dsimp only [L2.KOf]
      refine' Po.def_mk ?a ?l ?c ?k
      (case a => k_is)
      (case l => k_is)
      (case c => k_is)
      (case k => k_is)
    have D_file_paper : Po.Def (L2.KOf KX) "file_paper" Po.s_file_paper := by
      dsimp only [L2.KOf]
      refine' Po.def_mk ?a ?l ?c ?k
      (case a => k_is)
      (case l => k_is)
      (case c => k_is)
      (case k => k_is)
    have D_withdraw_paper : Po.Def (L2.KOf KX) "withdraw_paper" Po.s_withdraw_paper := by
      dsimp only [L2.KOf]
      refine' Po.def_mk ?a ?l ?c ?k
      (case a => k_is)
      (case l => k_is)
      (case c => k_is)
      (case k => k_is)
    have D_may_be_last_day : Po.Def (L2.KOf KX) "may_be_last_day" Po.s_may_be_last_day := by
      dsimp only [L2.KOf]
      refine' Po.def_mk ?a ?l ?c ?k
      (case a => k_is)
      (case l => k_is)
      (case c => k_is)
      (case k => k_is)
    have D_be_away : Po.Def (L2.KOf KX) "be_away" Po.s_be_away := by
      dsimp only [L2.KOf]
      refine' Po.def_mk ?a ?l ?c ?k
      (case a => k_is)
      (case l => k_is)
      (case c => k_is)
      (case k => k_is)
    have D_be_back : Po.Def (L2.KOf KX) "be_back" Po.s_be_back := by
      dsimp only [L2.KOf]
      refine' Po.def_mk ?a ?l ?c ?k
      (case a => k_is)
      (case l => k_is)
      (case c => k_is)
      (case k => k_is)
    have D_is_late : Po.Def (L2.KOf KX) "is_late" Po.s_is_late := by
      dsimp only [L2.KOf]
      refine' Po.def_mk ?a ?l ?c ?k
      (case a => k_is)
      (case l => k_is)
      (case c => k_is)
      (case k => k_is)
    have D_rise_or_lapse : Po.Def (L2.KOf KX) "rise_or_lapse" Po.s_rise_or_lapse := by
      dsimp only [L2.KOf]
      refine' Po.def_mk ?a ?l ?c ?k
      (case a => k_is)
      (case l => k_is)
      (case c => k_is)
      (case k => k_is)
    have D_pass_one_day : Po.Def (L2.KOf KX) "pass_one_day" Po.s_pass_one_day := by
      dsimp only [L2.KOf]
      refine' Po.def_mk ?a ?l ?c ?k
      (case a => k_is)
      (case l => k_is)
      (case c => k_is)
      (case k => k_is)
    have D_pass_days : Po.Def (L2.KOf KX) "pass_days" Po.s_pass_days := by
      dsimp only [L2.KOf]
      refine' Po.def_mk ?a ?l ?c ?k
      (case a => k_is)
      (case l => k_is)
      (case c => k_is)
      (case k => k_is)
    have D_answer_of_order : Po.Def (L2.KOf KX) "answer_of_order" Po.s_answer_of_order := by
      dsimp only [L2.KOf]
      refine' Po.def_mk ?a ?l ?c ?k
      (case a => k_is)
      (case l => k_is)
      (case c => k_is)
      (case k => k_is)
    have D_answer_of : Po.Def (L2.KOf KX) "answer_of" Po.s_answer_of := by
      dsimp only [L2.KOf]
      refine' Po.def_mk ?a ?l ?c ?k
      (case a => k_is)
      (case l => k_is)
      (case c => k_is)
      (case k => k_is)
    have D_answers : Po.Def (L2.KOf KX) "answers" Po.s_answers := by
      dsimp only [L2.KOf]
      refine' Po.def_mk ?a ?l ?c ?k
      (case a => k_is)
      (case l => k_is)
      (case c => k_is)
      (case k => k_is)
    refine' Po.top_mk KX G hmg ?a_Person ?pg_Person ?hd_Person ?po_Person ?sa_Person ?mk_Person ?kc_Person ?ini_Person ?isf_Person ?l_Person ?c_Person ?k_Person ?n_Person_roles ?n_Person_chief ?n_Person_stand_in ?n_Person_stand_in_until ?a_Step ?pg_Step ?hd_Step ?po_Step ?sa_Step ?mk_Step ?kc_Step ?ini_Step ?isf_Step ?l_Step ?c_Step ?k_Step ?n_Step_role ?n_Step_signatures ?n_Step_days ?n_Step_writer_may_sign ?n_Step_goes_back_to ?a_Act ?pg_Act ?hd_Act ?po_Act ?sa_Act ?mk_Act ?kc_Act ?ini_Act ?isf_Act ?l_Act ?c_Act ?k_Act ?n_Act_step ?n_Act_turn ?n_Act_by ?n_Act_behalf ?n_Act_signed ?a_Paper ?pg_Paper ?hd_Paper ?po_Paper ?sa_Paper ?mk_Paper ?kc_Paper ?ini_Paper ?isf_Paper ?l_Paper ?c_Paper ?k_Paper ?n_Paper_writer ?n_Paper_procedure ?n_Paper_state ?n_Paper_step ?n_Paper_turn ?n_Paper_level ?n_Paper_due ?n_Paper_acts ?a_Office ?pg_Office ?hd_Office ?po_Office ?sa_Office ?mk_Office ?kc_Office ?ini_Office ?isf_Office ?l_Office ?c_Office ?k_Office ?n_Office_today ?n_Office_people ?n_Office_kept_apart ?n_Office_procedures ?n_Office_papers ?e_NOBODY ?e_NOWHERE ?e_LAST_ROLE ?e_UNDER_WAY ?e_APPROVED ?e_REFUSED ?e_WITHDRAWN ?e_LAPSED ?e_NOT_ONE_THAT_MAY_BE ?e_TOO_LATE ?e_NOT_STANDING_IN ?e_NOT_ENTITLED ?e_WRITER_MAY_NOT ?e_NOT_THE_WRITER ?e_ACTED_IN_THIS_ROUND ?e_FULL ?e_ACTED_IN_A_ROLE_KEPT_APART ?e_MOST_DAYS_ON ?e_MOST_DAYS_IN_ONE_CALL ?e_HIGHEST_LEVEL ?e_MOST_PAPERS ?e_LAST_ROUND ?e_MOST_PEOPLE ?e_ALL_ROLES ?e_MOST_PROCEDURES ?e_MOST_STEPS ?e_NUMBERS_OF_A_STEP ?e_MOST_SIGNATURES ?e_MOST_DAYS ?e_PERSON ?e_ROLES ?e_APART ?e_PROCEDURE ?e_FILE ?e_SIGN ?e_REFUSE ?e_MAY ?e_WITHDRAW ?e_AWAY ?e_BACK ?e_TELL ?e_ACTS ?e_WHO ?e_WAITING ?b_len ?b_sum ?b_all ?b_range ?b_enumerate ?n_HOW_MANY_NUMBERS ?l_HOW_MANY_NUMBERS ?o_HOW_MANY_NUMBERS D_end_of_numbers D_begin_of_numbers D_has D_current_step D_stands_for D_holds D_is_within_levels_above D_is_entitled D_has_part_in D_acted_in_this_round D_acted_in_a_role_kept_apart D_refusal_to_act D_may_act D_note_act D_signatures_in_this_round D_due_from_today D_come_to D_go_on D_sign_paper D_go_back D_refuse_paper D_answer_of_act D_tell_paper D_tell_acts D_with_count D_may_act_for_themselves D_tell_who D_tell_waiting D_answer_of_question D_are_roles D_may_be_chief D_add_person D_give_roles D_is_role D_keep_apart D_is_length_of_steps D_step_at D_steps_of D_may_be_step D_add_procedure D_file_paper D_withdraw_paper D_may_be_last_day D_be_away D_be_back D_is_late D_rise_or_lapse D_pass_one_day D_pass_days D_answer_of_order D_answer_of D_answers
    (case a_Person => k_is)
    (case pg_Person => k_is)
    (case hd_Person => k_is)
    (case po_Person => k_is)
    (case sa_Person => k_is)
    (case mk_Person => k_is)
    (case kc_Person => k_is)
    (case ini_Person => k_is)
    (case isf_Person => k_is)
    (case l_Person => k_is)
    (case c_Person => k_is)
    (case k_Person => k_is)
    (case n_Person_roles => k_is)
    (case n_Person_chief => k_is)
    (case n_Person_stand_in => k_is)
    (case n_Person_stand_in_until => k_is)
    (case a_Step => k_is)
    (case pg_Step => k_is)
    (case hd_Step => k_is)
    (case po_Step => k_is)
    (case sa_Step => k_is)
    (case mk_Step => k_is)
    (case kc_Step => k_is)
    (case ini_Step => k_is)
    (case isf_Step => k_is)
    (case l_Step => k_is)
    (case c_Step => k_is)
    (case k_Step => k_is)
    (case n_Step_role => k_is)
    (case n_Step_signatures => k_is)
    (case n_Step_days => k_is)
    (case n_Step_writer_may_sign => k_is)
    (case n_Step_goes_back_to => k_is)
    (case a_Act => k_is)
    (case pg_Act => k_is)
    (case hd_Act => k_is)
    (case po_Act => k_is)
    (case sa_Act => k_is)
    (case mk_Act => k_is)
    (case kc_Act => k_is)
    (case ini_Act => k_is)
    (case isf_Act => k_is)
    (case l_Act => k_is)
    (case c_Act => k_is)
    (case k_Act => k_is)
    (case n_Act_step => k_is)
    (case n_Act_turn => k_is)
    (case n_Act_by => k_is)
    (case n_Act_behalf => k_is)
    (case n_Act_signed => k_is)
    (case a_Paper => k_is)
    (case pg_Paper => k_is)
    (case hd_Paper => k_is)
    (case po_Paper => k_is)
    (case sa_Paper => k_is)
    (case mk_Paper => k_is)
    (case kc_Paper => k_is)
    (case ini_Paper => k_is)
    (case isf_Paper => k_is)
    (case l_Paper => k_is)
    (case c_Paper => k_is)
    (case k_Paper => k_is)
    (case n_Paper_writer => k_is)
    (case n_Paper_procedure => k_is)
    (case n_Paper_state => k_is)
    (case n_Paper_step => k_is)
    (case n_Paper_turn => k_is)
    (case n_Paper_level => k_is)
    (case n_Paper_due => k_is)
    (case n_Paper_acts => k_is)
    (case a_Office => k_is)
    (case pg_Office => k_is)
    (case hd_Office => k_is)
    (case po_Office => k_is)
    (case sa_Office => k_is)
    (case mk_Office => k_is)
    (case kc_Office => k_is)
    (case ini_Office => k_is)
    (case isf_Office => k_is)
    (case l_Office => k_is)
    (case c_Office => k_is)
    (case k_Office => k_is)
    (case n_Office_today => k_is)
    (case n_Office_people => k_is)
    (case n_Office_kept_apart => k_is)
    (case n_Office_procedures => k_is)
    (case n_Office_papers => k_is)
    (case e_NOBODY => k_is)
    (case e_NOWHERE => k_is)
    (case e_LAST_ROLE => k_is)
    (case e_UNDER_WAY => k_is)
    (case e_APPROVED => k_is)
    (case e_REFUSED => k_is)
    (case e_WITHDRAWN => k_is)
    (case e_LAPSED => k_is)
    (case e_NOT_ONE_THAT_MAY_BE => k_is)
    (case e_TOO_LATE => k_is)
    (case e_NOT_STANDING_IN => k_is)
    (case e_NOT_ENTITLED => k_is)
    (case e_WRITER_MAY_NOT => k_is)
    (case e_NOT_THE_WRITER => k_is)
    (case e_ACTED_IN_THIS_ROUND => k_is)
    (case e_FULL => k_is)
    (case e_ACTED_IN_A_ROLE_KEPT_APART => k_is)
    (case e_MOST_DAYS_ON => k_is)
    (case e_MOST_DAYS_IN_ONE_CALL => k_is)
    (case e_HIGHEST_LEVEL => k_is)
    (case e_MOST_PAPERS => k_is)
    (case e_LAST_ROUND => k_is)
    (case e_MOST_PEOPLE => k_is)
    (case e_ALL_ROLES => k_is)
    (case e_MOST_PROCEDURES => k_is)
    (case e_MOST_STEPS => k_is)
    (case e_NUMBERS_OF_A_STEP => k_is)
    (case e_MOST_SIGNATURES => k_is)
    (case e_MOST_DAYS => k_is)
    (case e_PERSON => k_is)
    (case e_ROLES => k_is)
    (case e_APART => k_is)
    (case e_PROCEDURE => k_is)
    (case e_FILE => k_is)
    (case e_SIGN => k_is)
    (case e_REFUSE => k_is)
    (case e_MAY => k_is)
    (case e_WITHDRAW => k_is)
    (case e_AWAY => k_is)
    (case e_BACK => k_is)
    (case e_TELL => k_is)
    (case e_ACTS => k_is)
    (case e_WHO => k_is)
    (case e_WAITING => k_is)
    (case b_len => k_is)
    (case b_sum => k_is)
    (case b_all => k_is)
    (case b_range => k_is)
    (case b_enumerate => k_is)
    (case n_HOW_MANY_NUMBERS => k_is)
    (case l_HOW_MANY_NUMBERS => k_is)
    (case o_HOW_MANY_NUMBERS => rfl)
#print axioms PySem.Challenge.cw_paperoffice_s01_answers_holds
